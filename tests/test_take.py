"""take: which texts are linkages, and which byte of any other one is at fault (C1, C6)."""

import unittest

from helper import PRINT, answer_all, answer_last, take

START = "pin A 0 0\npin B 10 0\ncrank C A 3\n"
BARS = START + "dyad D C 9 B 8\nrider R A B 1/2 0\n"


class Taken(unittest.TestCase):
    def check(self, text, lines):
        self.assertEqual(answer_last(take(text)), [lines], text)

    def test_each_kind_of_line(self):
        self.check("pin A 0 0\ncrank B A 1\n", 2)
        self.check(START, 3)
        self.check(START + "dyad D C 9 B 8\n", 4)
        self.check(START + "rider D A C 1 0\n", 4)
        self.check(BARS, 5)

    def test_names(self):
        self.check("pin Z 0 0\ncrank Z1 Z 1\ndyad Z10 Z 1 Z1 1\ndyad Z99 Z1 1 Z10 1\n", 4)

    def test_bounds_of_pins(self):
        self.check("pin A -999 999\npin B 999 -999\npin C 0 -1\ncrank D A 1\n", 4)

    def test_bounds_of_lengths(self):
        self.check("pin A 0 0\ncrank B A 999\ndyad C A 1 B 999\ndyad D A 999 B 1\n", 4)

    def test_shares(self):
        for word in ("0", "1", "-1", "999", "-999", "1/2", "-1/2", "999/20", "-999/20", "1/20", "7/10", "998/19"):
            self.check(START + "rider D A B " + word + " 0\n", 4)
            self.check(START + "rider D A B 0 " + word + "\n", 4)

    def test_riders_of_each_piece(self):
        for ends in ("A B", "B A", "A C", "C A", "C D", "D C", "D B", "B D"):
            self.check(BARS + "rider S " + ends + " 1 1\n", 6)

    def test_a_bar_from_a_rider_carries_riders(self):
        self.check(BARS + "dyad E R 4 D 4\nrider S R E 1 1\nrider S1 E R 1 1\n", 8)
        self.check("pin A 0 0\npin B 1 0\nrider R A B 1 1\ncrank C R 1\nrider S C R 2 2\n", 5)

    def test_a_crank_turns_about_a_rider_of_the_ground(self):
        self.check("pin A 0 0\npin B 1 0\nrider R A B 1/2 1/3\ncrank C R 5\n", 4)

    def test_points_other_than_pins_may_lie_on_pins(self):
        self.check(START + "rider D A B 1 0\nrider E A B 1 0\n", 5)
        self.check(START + "rider D A B 2 0\npin E 20 0\n", 5)

    def test_pins_that_share_one_coordinate(self):
        self.check(START + "pin D 10 1\npin E 11 0\npin F 0 10\n", 6)

    def test_three_dyads_of_rising_rank(self):
        self.check(START + "dyad D C 9 B 8\ndyad E D 5 B 5\ndyad F E 5 D 5\n", 6)

    def test_24_lines(self):
        self.check(many_pins(23) + "crank C N1 1\n", 24)
        self.check("pin A 0 0\ncrank C A 1\n" + many_pins(22), 24)


class FaultCase(unittest.TestCase):
    def check(self, marked):
        """marked: the text with ^ before the byte at fault."""
        self.assertEqual(marked.count("^"), 1)
        text = marked.replace("^", "")
        self.assertEqual(answer_last(take(text)), [-6, 1, marked.index("^")], marked)

    def check_behind(self, start, *marked_lines):
        for marked in marked_lines:
            self.check(start + marked)


class AtFault(FaultCase):
    def test_the_empty_text(self):
        self.check("^")

    def test_first_word(self):
        self.check_behind("", "^x", "^Pin A 0 0\n", "^ pin A 0 0\n", "^\n", "p^x", "p^", "pi^", "pi^\n", "pi^m")
        self.check_behind("", "pin^", "pin^\n", "pin^A 0 0\n", "pin^s A 0 0\n", "^A 0 0\n", "c^in A 0 0\n")
        self.check_behind(START, "^x", "d^iad D C 9 B 8\n", "rid^", "ride^ D A B 1 1\n", "rider^", "^\n", "^ ", "^\0")

    def test_blanks(self):
        self.check_behind("", "pin ^ A 0 0\n", "pin A ^ 0 0\n", "pin A 0 ^ 0\n", "pin A 0 0^ \n", "pin^\tA 0 0\n")
        self.check_behind("", "pin A^\n", "pin A 0^\n", "pin A^,0 0\n", "pin A 0^,0\n", "pin A 0^.5 0\n")

    def test_line_ends(self):
        self.check_behind("", "pin A 0 0^", "pin A 0 0^\r\n", "pin A 0 0^;", "pin A 0 0\n^\n", "pin A 0 0\n^\r\n")
        self.check_behind("pin A 0 0\n", "crank C A 3^", "crank C A 3^ 4\n", "crank C A 3\n^\n")

    def test_the_end_where_more_must_come(self):
        for text in ("pin A 0 0\n", "pin A 0 0\ncrank C A 3\n", BARS):
            for length in range(len(text)):
                answer = answer_last(take(text[:length]))
                if answer[0] == -6:
                    self.assertEqual(answer, [-6, 1, length])
                else:
                    self.assertIn("crank", text[:length])
                    self.assertEqual(text[length - 1], "\n")

    def test_form_of_names(self):
        self.check_behind("", "pin ^a 0 0\n", "pin ^1 0 0\n", "pin ^\n", "pin ^", "pin ^@ 0 0\n", "pin ^[ 0 0\n")
        self.check_behind("", "pin A^0 0 0\n", "pin A^01 0 0\n", "pin A10^0 0 0\n", "pin A12^3 0 0\n", "pin A^B 0 0\n")
        self.check_behind("", "pin A1^B 0 0\n", "pin A^/ 0 0\n", "pin A^: 0 0\n", "pin A^-1 0 0\n")

    def test_form_of_numbers(self):
        self.check_behind("", "pin A ^", "pin A ^\n", "pin A ^x 0\n", "pin A ^+1 0\n", "pin A -^", "pin A -^ 0\n")
        self.check_behind("", "pin A -^0 0\n", "pin A 0^0 0\n", "pin A 0^1 0\n", "pin A 100^0 0\n", "pin A -123^4 0\n")
        self.check_behind("", "pin A 0 -^-1\n", "pin A 0 -^0\n", "pin A 0 999^9\n", "pin A 0 1^/2\n", "pin A 0^/2 0\n")
        self.check_behind("", "pin A ^/ 0\n", "pin A ^: 0\n", "pin A 1^: 0\n", "pin A -^/ 0\n")

    def test_form_of_shares(self):
        behind = "rider D A B "
        self.check_behind(START + behind, "1/^", "1/^\n", "1/^ 2 0\n", "1/^-2 0\n", "1/^/2 0\n", "1/0^2 0\n",
                          "1/100^0 0\n")
        self.check_behind(START + behind, "1/2^/3 0\n", "-^0/5 0\n", "-^/5 0\n", "0^0/5 0\n", "100^0/3 0\n",
                          "1/2^.5 0\n")
        self.check_behind(START + behind + "0 ", "1/^", "1/^\n", "1/^-2\n", "1/0^2\n", "1/2^/3\n", "1/2^ \n",
                          "-^0\n", "1^")

    def test_bytes_that_no_text_has(self):
        for byte in (0, 9, 13, 127, 128, 255):
            self.assertEqual(answer_last(take([byte])), [-6, 1, 0])
            self.assertEqual(answer_last(take(list(START.encode()) + [byte])), [-6, 1, len(START)])

    def test_a_name_twice(self):
        self.check_behind(START, "pin ^A 5 5\n", "pin ^C 5 5\n", "dyad ^B C 1 B 1\n", "rider ^A A B 1 1\n")
        self.check("pin A 0 0\ncrank ^A A 1\n")
        self.check("pin A10 0 0\npin ^A10 0 0\n")
        self.check("pin A1 0 0\npin A 1 0\npin A10 2 0\ncrank ^A1 A 1\n")

    def test_a_name_that_there_is_not(self):
        self.check("crank A ^B 1\n")
        self.check("pin A 0 0\ncrank C ^B 1\n")
        self.check("pin A 0 0\ncrank C ^C 1\n")
        self.check_behind(START, "dyad D ^E 1 B 1\n", "dyad D A 1 ^E 1\n", "dyad D ^D 1 B 1\n", "dyad D A 1 ^D 1\n")
        self.check_behind(START, "dyad D ^A1 1 B 1\n", "rider D ^E B 1 1\n", "rider D A ^E 1 1\n", "rider D A ^D 1 1\n")

    def test_q_that_is_p(self):
        self.check_behind(START, "dyad D A 1 ^A 1\n", "dyad D C 1 ^C 1\n", "rider D A ^A 1 1\n", "rider D C ^C 1 1\n")

    def test_a_crank_about_what_is_not_fixed(self):
        self.check("pin A 0 0\npin B 2 0\ndyad D A 2 B 2\ncrank C ^D 1\n")
        self.check("pin A 0 0\npin B 2 0\ndyad D A 2 B 2\nrider R A D 1 0\ncrank C ^R 1\n")

    def test_a_rider_of_no_piece(self):
        self.check_behind(BARS, "rider S B ^C 1 1\n", "rider S C ^B 1 1\n", "rider S A ^D 1 1\n", "rider S D ^A 1 1\n")
        self.check_behind(BARS, "rider S A ^R 1 1\n", "rider S R ^A 1 1\n", "rider S R ^D 1 1\n", "rider S R ^R 1 1\n")

    def test_lengths_out_of_bounds(self):
        self.check_behind("pin A 0 0\ncrank C A ", "^0\n", "^-1\n", "^-999\n", "100^0\n")
        self.check_behind(START + "dyad D C ", "^0 B 1\n", "^-5 B 1\n", "1 B ^0\n", "1 B ^-7\n",
                          "100^0 B 1\n", "1 B 100^0\n")

    def test_shares_out_of_bounds(self):
        for word in ("^1/0", "^1/1", "^-3/1", "^1/21", "^1/99", "^1/100", "^-7/999", "^0/2", "^0/5", "^0/20"):
            self.check(START + "rider D A B " + word + " 0\n")
            self.check(START + "rider D A B 0 " + word + "\n")

    def test_shares_with_a_common_factor(self):
        for word in ("^2/2", "^2/4", "^-2/4", "^6/9", "^15/20", "^-999/3", "^10/20", "^14/7"):
            self.check(START + "rider D A B " + word + " 0\n")
            self.check(START + "rider D A B 0 " + word + "\n")

    def test_a_pin_where_one_is(self):
        self.check_behind(START, "pin D ^0 0\n", "pin D ^10 0\n")
        self.check("pin A -5 7\ncrank B A 1\npin C ^-5 7\n")

    def test_a_second_crank(self):
        self.check_behind(START, "^crank D A 3\n", "^crank D B 1\n")

    def test_a_fourth_dyad(self):
        three = START + "dyad D C 9 B 8\ndyad E C 9 B 8\ndyad F C 9 B 8\n"
        self.check_behind(three, "^dyad G C 9 B 8\n", "^dyad")

    def test_a_dyad_of_rank_4(self):
        self.check(START + "dyad D C 9 B 8\ndyad E D 5 B 5\ndyad F E 5 D 5\n^dyad G F 5 E 5\n")

    def test_a_25th_line(self):
        full = many_pins(23) + "crank C N1 1\n"
        self.check_behind(full, "^pin A 500 500\n", "^rider R N1 N2 1 1\n", "^dyad D N1 1 N2 1\n", "^crank D N1 1\n")
        self.check(many_pins(24) + "^crank C N1 1\n")

    def test_no_crank(self):
        self.check("pin A 0 0\n^")
        self.check("pin A 0 0\npin B 1 0\nrider R A B 1 1\ndyad D A 2 B 2\n^")
        self.check(many_pins(24) + "^")


class WhichFirst(FaultCase):
    """Of two faults the one that's looked at first; each check has both in one line."""

    def test_names_before_what_follows(self):
        self.check_behind(START, "pin ^A", "pin ^A\n", "pin ^Ax", "pin ^A 0 0\n", "pin ^A x\n", "dyad ^A Z 1 B 1\n")
        self.check_behind(START, "dyad D ^E", "dyad D ^Ex", "dyad D ^E 0 B 1\n", "dyad D A 1 ^A", "dyad D A 1 ^A 0\n")
        self.check_behind(START, "rider D A ^A", "rider D A ^A x", "rider D B ^C", "rider D B ^C\n",
                          "rider D B ^C 2/4 1\n")
        self.check_behind("pin A 0 0\npin B 2 0\ndyad D A 2 B 2\n", "crank C ^D", "crank C ^D 0\n", "crank C ^Dx")

    def test_names_that_go_on(self):
        self.check_behind(START, "pin A^0", "pin A1 5 5\npin A12 6 6\npin A12^3 7 7\n", "pin A1 5 5\npin A10^0 6 6\n")
        self.check_behind(START, "dyad D E^0 1 B 1\n", "dyad D ^A1 1 B 1\n", "dyad D E12^3 1 B 1\n")

    def test_numbers_before_what_follows(self):
        self.check_behind("pin A 0 0\n", "crank C A ^0", "crank C A ^0x", "crank C A ^0/2\n", "crank C A ^-5",
                          "crank C A ^-5 \n")
        self.check_behind(START, "dyad D C ^0 E 1\n", "dyad D C ^0\n", "dyad D C ^-1x", "dyad D C 1 B ^0",
                          "dyad D C 1 B ^0 \n")

    def test_numbers_that_go_on(self):
        self.check_behind("pin A 0 0\n", "crank C A 0^0\n", "crank C A -^0\n", "crank C A -100^0\n", "crank C A 0^1\n")

    def test_shares_before_what_follows(self):
        behind = START + "rider D A B "
        self.check_behind(behind, "^1/1", "^1/1x", "^2/4/3 1\n", "^0/5\n", "^1/21 2/4\n", "^1/0/", "^2/4", "^1/999x")
        self.check_behind(behind, "0/^", "0/^x", "0/^-5 1\n", "2/100^0 1\n", "0/0^0 1\n", "1 ^2/4", "1 ^2/4x",
                          "1/2 ^3/1 \n")

    def test_a_pins_place_before_what_follows(self):
        self.check_behind(START, "pin D ^0 0", "pin D ^0 0x", "pin D ^10 0 \n", "pin D 0 0^0\n", "pin D 0 -^0\n")

    def test_a_name_before_a_place(self):
        self.check_behind(START, "pin ^B 0 0\n")

    def test_a_lines_own_behind_its_first_word(self):
        three = START + "dyad D C 9 B 8\ndyad E C 9 B 8\ndyad F C 9 B 8\n"
        self.check_behind(three, "^dyad", "^dyadx", "^dyad\n", "^dyad D C 9 B 8\n", "dya^", "dya^x", "d^\n")
        self.check_behind(START, "^crank", "^crankx", "^crank A Z 0\n", "cran^", "cran^x", "cr^rank D A 1\n")
        full = many_pins(23) + "crank C N1 1\n"
        self.check_behind(full, "^pin", "^pinx", "^crank N1", "^rider N1 Z", "pi^", "pi^x", "r^\n", "^x", "^\n")

    def test_an_earlier_line_before_a_later_one(self):
        self.check("pin A 0 0\npin ^A 0 0\npin A 0\n")
        self.check("pin A 0 0\npin B ^0 0\npin A 0 0\ncrank Z Z 0\n")


class TooLong(unittest.TestCase):
    def test_2048_bytes_are_read(self):
        text = START + "x" * (2048 - len(START))
        self.assertEqual(answer_last(take(text)), [-6, 1, len(START)])
        self.assertEqual(answer_last(take("\n" * 2048)), [-6, 1, 0])

    def test_2049_bytes_are_not(self):
        self.assertEqual(answer_last(take(START + "x" * (2049 - len(START)))), [-2])
        self.assertEqual(answer_last(take("pin A 0 0\ncrank B A 1\n" * 100)), [-2])
        self.assertEqual(answer_last(take([0] * 4000)), [-2])


class Refused(unittest.TestCase):
    def test_a_take_that_refuses_changes_nothing(self):
        for other in ("", "pin A 0 0\n", START + "x", "x" * 2049):
            answers = answer_all(take(START), take(other), PRINT)
            self.assertLess(answers[1][0], 0)
            self.assertEqual(answers[2][2:], list(START.encode()))

    def test_a_first_take_that_refuses_leaves_none(self):
        self.assertEqual(answer_all(take("pin"), PRINT), [[-6, 1, 3], [-9]])
        self.assertEqual(answer_all(take("x" * 2049), PRINT), [[-2], [-9]])


def many_pins(count):
    return "".join(f"pin N{k} {k} -{k}\n" for k in range(1, count + 1))


if __name__ == "__main__":
    unittest.main()
