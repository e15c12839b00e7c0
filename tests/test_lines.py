"""print, item and held: what a linkage that was taken has in it (C1, C6)."""

import unittest

from helper import PRINT, answer_all, answer_last, held, item, take

# Lines:      0            1             2               3                    4
TEXT = ("pin A 0 0\n" "pin B 10 -3\n" "crank C A 3\n" "dyad D C 9 B 8\n" "rider E A B -1/2 0\n"
        # 5                   6                    7                   8
        "rider F C D 1 2/3\n" "dyad G F 999 E 7\n" "rider H E G 5 5\n" "dyad I G 20 A 20\n"
        # 9                   10                 11               12
        "rider J I G 0 -999\n" "rider K A C 1 1\n" "pin L -999 999\n" "rider M L A 1 1\n")


class Print(unittest.TestCase):
    def test_the_text_that_was_taken(self):
        for text in (TEXT, "pin A 0 0\ncrank B A 1\n", "pin A99 -1 1\ncrank B1 A99 999\nrider C A99 B1 -19/20 0\n"):
            numbers = list(text.encode())
            self.assertEqual(answer_last(take(text), PRINT), [len(numbers), len(numbers)] + numbers)

    def test_the_newest_linkage(self):
        small = "pin A 0 0\ncrank B A 1\n"
        answers = answer_all(take(TEXT), take(small), PRINT, take(TEXT), PRINT)
        self.assertEqual(answers[2][2:], list(small.encode()))
        self.assertEqual(answers[4][2:], list(TEXT.encode()))


class Item(unittest.TestCase):
    def check(self, i, kind, first, second, rank):
        self.assertEqual(answer_last(take(TEXT), item(i)), [0, 4, kind, first, second, rank])

    def test_pins(self):
        self.check(0, 0, 0, 0, 0)
        self.check(1, 0, 1, 1, 0)
        self.check(11, 0, 11, 11, 0)

    def test_the_crank(self):
        self.check(2, 1, 0, 2, 0)
        text = "pin A 0 0\npin B 1 0\nrider R B A 1 1\ncrank C R 1\n"
        self.assertEqual(answer_last(take(text), item(3)), [0, 4, 1, 2, 3, 0])

    def test_dyads(self):
        self.check(3, 2, 2, 1, 1)
        self.check(6, 2, 5, 4, 2)
        self.check(8, 2, 6, 0, 3)

    def test_riders(self):
        self.check(4, 3, 0, 1, 0)
        self.check(5, 3, 2, 3, 1)
        self.check(7, 3, 4, 6, 2)
        self.check(9, 3, 8, 6, 3)
        self.check(10, 3, 0, 2, 0)
        self.check(12, 3, 11, 0, 0)

    def test_the_rank_counts_the_greater_of_both(self):
        start = "pin A 0 0\ncrank C A 3\ndyad D A 3 C 3\n"
        self.assertEqual(answer_last(take(start + "dyad E A 3 C 3\n"), item(3)), [0, 4, 2, 0, 1, 1])
        self.assertEqual(answer_last(take(start + "dyad E D 3 C 3\n"), item(3)), [0, 4, 2, 2, 1, 2])
        self.assertEqual(answer_last(take(start + "dyad E C 3 D 3\n"), item(3)), [0, 4, 2, 1, 2, 2])

    def test_no_such_line(self):
        for i in (13, 14, 24, 2 ** 63 - 1):
            self.assertEqual(answer_last(take(TEXT), item(i)), [-4])


class Held(unittest.TestCase):
    def check(self, text, *pieces):
        for i in range(text.count("\n")):
            for j in range(text.count("\n")):
                expected = i == j or any(i in piece and j in piece for piece in pieces)
                self.assertEqual(answer_last(take(text), held(i, j)), [1 if expected else 0], (i, j))

    def test_every_pair(self):
        self.check(TEXT, (0, 1, 11, 4, 12), (0, 2, 10), (2, 3, 5), (1, 3), (5, 6), (4, 6, 7), (6, 8, 9), (0, 8))

    def test_every_pair_of_dyads_in_a_row(self):
        for start in range(8):
            pins = "".join(f"pin N{k + 1} {k} 0\n" for k in range(start))
            text = pins + "pin A 0 9\ncrank B A 1\ndyad C A 1 B 1\ndyad D B 1 C 1\ndyad E C 1 D 1\n"
            bars = [(0, 1), (0, 2), (1, 2), (1, 3), (2, 3), (2, 4), (3, 4)]
            self.check(text, range(start + 1), *[(start + i, start + j) for i, j in bars])

    def test_a_cranks_bar_from_a_rider(self):
        text = "pin A 0 0\npin B 1 0\nrider R B A 1 1\ncrank C R 1\nrider S C R 1 1\n"
        answers = answer_all(take(text), held(2, 3), held(4, 2), held(4, 0), held(2, 1))
        self.assertEqual(answers[1:], [[1], [1], [0], [1]])

    def test_no_such_line(self):
        for i, j in ((13, 0), (0, 13), (13, 13), (2 ** 63 - 1, 2 ** 63 - 1)):
            self.assertEqual(answer_last(take(TEXT), held(i, j)), [-4])


if __name__ == "__main__":
    unittest.main()
