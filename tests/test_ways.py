"""side and way: where points lie as seen along a way, and where a way leads, exactly (C4)."""

import random
import unittest

from helper import MIRROR, Sketch, answer_all, answer_last, lines_of, side, take, way
from test_figures import random_linkage

BIG = 2 ** 63 - 1
PINS = "pin A 0 0\npin B 4 2\npin C 1 3\npin D 3 -1\npin E 8 4\npin F -4 -2\npin G 2 1\ncrank H A 5\n"
# D and E lie opposite to one another over C and B, and F is on the line through these.
TWINS = "pin A 0 0\npin B 5 -3\ncrank C A 7\ndyad D C 6 B 5\ndyad E C 6 B 5\ndyad F D 5 E 5\n"
# E and D have the same distance from F, from M and from N; all three over one another.
KITE = ("pin A 0 0\npin B 5 1\npin G 2 3\ncrank C A 3\ndyad D A 4 C 3\ndyad E D 5 G 4\ndyad F E 4 D 4\n"
        "rider M D E 1/2 0\nrider N E D 1/2 7/3\nrider K F E 3 0\n")
# D is on the circle about O through the pins A, B, N and S: an eighth of a turn from B, or opposite to it.
CIRCLE = "pin O 0 0\npin A -1 0\npin B 1 0\npin N 0 1\npin S 0 -1\npin W 2 -2\ncrank C O 1\ndyad D O 1 W 3\n"
# P and Q are at (0, 1) and (0, -1), each moved up or down by twice the root of 2. With E's roots over theirs
# the way from X to G leads just along an odd 32nd of a turn if P and Q are moved to different ways.
THIRTY_SECONDS = ("pin A 0 1\npin W 2 -1\npin A1 0 -1\npin W1 2 -3\npin X -7 0\ncrank C A 1\n"
                  "dyad D A 1 W 3\ndyad D1 A1 1 W1 3\nrider P A D 2 2\nrider Q A1 D1 -2 -2\n"
                  "dyad E P 7 Q 7\nrider G P E -1 -1\n")
# On sides 0 and 3 E is D moved by the way from A to B, and F by that from A to G if it's on the left.
MOVED = ("pin A 0 0\npin B 6 0\npin G 3 4\npin H 11 3\ncrank C A 1\n"
         "dyad D A 7 H 8\ndyad E D 6 B 7\ndyad F D 5 E 5\n")
# D and E are one above the other, and F is as high as A and B.
LEVEL = "pin A 0 0\npin B 9 0\ncrank C A 1\ndyad D A 7 B 6\ndyad E B 6 A 7\ndyad F D 11 E 11\n"


class SideCase(unittest.TestCase):
    def check(self, text, place, sides, names, expected):
        """Also along the way back, and round the triangle of all three."""
        i, j, k = lines_of(text, names)
        calls = [side(*place, sides, *order) for order in ((i, j, k), (j, k, i), (k, i, j))]
        back = [side(*place, sides, *order) for order in ((j, i, k), (k, j, i), (i, k, j))]
        answers = answer_all(take(text), *calls, *back)[1:]
        self.assertEqual(answers, [[expected]] * 3 + [[2 - expected]] * 3, (text, place, sides, names))


class Side(SideCase):
    def test_right_in_line_and_left(self):
        self.check(PINS, (1, 1), 0, "A B C", 2)
        self.check(PINS, (1, 1), 0, "A B D", 0)
        for names in ("A B E", "A B F", "A B G"):
            self.check(PINS, (1, 1), 0, names, 1)

    def test_ways_of_each_quarter(self):
        text = "pin A 5 5\npin B 6 5\npin C 5 6\npin D 4 5\npin E 5 4\ncrank F A 1\n"
        for names in ("A B C", "A C D", "A D E", "A E B", "B C D", "C D E", "D E B"):
            self.check(text, (1, 1), 0, names, 2)

    def test_i_and_j_at_one_point(self):
        self.check(PINS, (1, 1), 0, "A A C", 1)
        self.check(PINS, (1, 1), 0, "A A A", 1)
        text = "pin A 0 0\npin B 3 4\npin D 9 1\ncrank C A 5\n"
        self.check(text, (1, 2), 0, "B C D", 1)
        self.check(text, (49, 99), 0, "B C D", 2)
        self.check(text, (50, 99), 0, "B C D", 0)

    def test_k_at_one_of_them(self):
        self.check(PINS, (1, 1), 0, "A B A", 1)
        self.check(PINS, (1, 1), 0, "A B B", 1)
        self.check("pin A 0 0\npin B 3 4\npin D 9 1\ncrank C A 5\n", (1, 2), 0, "D B C", 1)

    def test_just_beside_the_line(self):
        text = "pin A -999 -998\npin B 0 0\npin D 998 997\npin E 999 998\npin F 997 996\ncrank C B 1\n"
        self.check(text, (1, 1), 0, "A B E", 1)
        self.check(text, (1, 1), 0, "A B D", 0)
        self.check(text, (1, 1), 0, "D B F", 2)
        # An eighth of a turn lies between these two places of the crank.
        text = "pin A 0 0\npin B 1 1\ncrank C A 999\n"
        self.check(text, (29, 70), 0, "A B C", 2)
        self.check(text, (41, 99), 0, "A B C", 0)

    def test_a_dyads_sides(self):
        text = "pin A 0 0\npin B 5 1\ncrank C A 3\ndyad D C 4 B 4\n"
        for place in ((0, 1), (1, 2), (-3, 5), (99, 98)):
            self.check(text, place, 0, "C B D", 2)
            self.check(text, place, 1, "C B D", 0)

    def test_touching_whatever_the_bit(self):
        for sides in (0, 1):
            self.check("pin A 0 0\npin B 4 0\ncrank C A 1\ndyad D C 1 B 2\n", (0, 1), sides, "C B D", 1)


class SideByTheorems(SideCase):
    def test_as_far_from_both_ends(self):
        for place in ((1, 2), (1, 1), (-3, 5), (70, 99)):
            for sides in range(8):
                self.check(KITE, place, sides, "F M N", 1)
                self.check(KITE, place, sides, "E F K", 1)
                self.check(KITE, place, sides, "E D M", 1)
                self.check(KITE, place, sides, "E D F", 0 if sides & 4 else 2)
                self.check(KITE, place, sides, "E D N", 2)

    def test_as_far_from_twins(self):
        text = TWINS.replace("dyad F D 5 E 5", "dyad F D 9 E 9")
        for place in ((1, 3), (-2, 7), (88, 99)):
            for sides in (1, 2, 5, 6):
                self.check(text, place, sides, "C B F", 1)
                self.check(TWINS, place, sides, "C B F", 1)

    def test_twins_at_one_point(self):
        text = TWINS.replace("dyad F D 5 E 5\n", "")
        for sides in (0, 3):
            self.check(text, (1, 3), sides, "D E A", 1)
            self.check(text, (1, 3), sides, "A D E", 1)
        # From the right of the way from C to B to its left, C is on the left.
        for sides, expected in ((1, 2), (2, 0)):
            self.check(text, (1, 3), sides, "D E C", expected)


class WayCase(unittest.TestCase):
    def check(self, text, place, sides, names, parts, mirrored=False):
        """parts: how many whole 32nds; these tell all greater parts of a turn too."""
        i, j = lines_of(text, names)
        calls = [take(text)] + ([MIRROR] if mirrored else []) + [way(*place, sides, i, j, m) for m in range(1, 6)]
        expected = [[0, 1, parts >> (5 - m)] for m in range(1, 6)]
        self.assertEqual(answer_all(*calls)[-5:], expected, (text, place, sides, names))

    def check_pin(self, x, y, parts):
        """The way from (0, 0)."""
        text = f"pin A 0 0\npin B {x} {y}\ncrank C A 1\n"
        self.check(text, (1, 1), 0, "A B", parts)
        self.check(text, (1, 1), 0, "B A", (parts + 16) % 32)

    def check_beside(self, x, y, parts):
        """A way along no border, in each quarter, and mirrored."""
        for turn in range(4):
            self.check_pin(x, y, (parts + 8 * turn) % 32)
            self.check_pin(x, -y, (31 - parts - 8 * turn) % 32)
            x, y = -y, x


class Way(WayCase):
    def test_along_the_eighths(self):
        for size in (1, 999):
            for k, (x, y) in enumerate(((1, 0), (1, 1), (0, 1), (-1, 1), (-1, 0), (-1, -1), (0, -1), (1, -1))):
                self.check_pin(x * size, y * size, 4 * k)

    def test_just_beside_the_eighths(self):
        self.check_beside(999, 1, 0)
        self.check_beside(999, 998, 3)
        self.check_beside(998, 999, 4)
        self.check_beside(1, 999, 7)

    def test_just_beside_the_16ths(self):
        self.check_beside(985, 408, 1)
        self.check_beside(408, 169, 2)
        self.check_beside(169, 408, 5)
        self.check_beside(408, 985, 6)

    def test_just_beside_the_32nds(self):
        self.check_beside(367, 73, 0)
        self.check_beside(920, 183, 1)
        self.check_beside(883, 590, 2)
        self.check_beside(220, 147, 3)
        self.check_beside(147, 220, 4)
        self.check_beside(590, 883, 5)
        self.check_beside(183, 920, 6)
        self.check_beside(73, 367, 7)

    def test_just_along_the_16ths(self):
        for sides, names, parts in ((0, "A D", 2), (0, "S D", 6), (0, "B D", 10), (0, "D N", 14), (0, "D A", 18),
                                    (0, "D S", 22), (0, "D B", 26), (0, "N D", 30), (1, "A D", 26), (1, "B D", 18),
                                    (0, "O D", 4), (1, "O D", 20)):
            self.check(CIRCLE, (3, 5), sides, names, parts)

    def test_just_along_the_32nds(self):
        for place in ((1, 1), (98, -97)):
            for sides, parts in ((0, 13), (3, 1), (4, 5), (7, 25)):
                self.check(THIRTY_SECONDS, place, sides, "X G", parts)
                self.check(THIRTY_SECONDS, place, sides, "G X", (parts + 16) % 32)
                self.check(THIRTY_SECONDS, place, 7 - sides, "X G", 32 - parts, mirrored=True)
                self.check(THIRTY_SECONDS, place, 7 - sides, "G X", (48 - parts) % 32, mirrored=True)

    def test_just_beside_the_32nds_with_roots(self):
        # The same, but with X moved by as little as a rider of the ground allows.
        for offset, sides, parts in (("1/20", 0, 13), ("-1/20", 0, 12), ("1/20", 3, 0), ("-1/20", 3, 1)):
            text = THIRTY_SECONDS.replace("pin X -7 0\n", f"pin X1 -7 0\npin X2 -7 1\nrider X X1 X2 {offset} 0\n")
            self.check(text, (1, 1), sides, "X G", parts)

    def test_the_crank(self):
        text = "pin A 3 -7\ncrank C A 1\n"
        for place, parts in (((0, 1), 0), ((1, 99), 0), ((-1, 99), 31), ((1, 1), 8), ((98, 99), 7), ((99, 98), 8),
                             ((1, 0), 16), ((99, 1), 15), ((-99, 1), 16), ((-1, 1), 24), ((1, -1), 24), ((41, 99), 3),
                             ((29, 70), 4), ((-29, 70), 27), ((-41, 99), 28)):
            self.check(text, place, 0, "A C", parts)
            self.check(text, place, 0, "C A", (parts + 16) % 32)

    def test_touching_whatever_the_bit(self):
        text = "pin A 0 0\npin B 4 0\ncrank C A 1\ndyad D C 1 B 2\n"
        for sides in (0, 1):
            self.check(text, (0, 1), sides, "C D", 0)
            self.check(text, (0, 1), sides, "B D", 16)


class WayByTheorems(WayCase):
    def test_moved(self):
        for place in ((1, 1), (98, -97)):
            for sides in (0, 3):
                self.check(MOVED, place, sides, "D E", 0)
                self.check(MOVED, place, sides, "E D", 16)
                self.check(MOVED, place, sides, "G F", self.parts(MOVED, place, sides, "A D"))

    def parts(self, text, place, sides, names):
        return answer_last(take(text), way(*place, sides, *lines_of(text, names), 5))[2]

    def test_level(self):
        for place in ((1, 1), (98, -97)):
            for sides, parts in ((0, 24), (3, 8), (4, 24), (7, 8)):
                self.check(LEVEL, place, sides, "D E", parts)
                self.check(LEVEL, place, sides, "E D", (parts + 16) % 32)
            # F is 8.6 away from the middle between D and E.
            for sides, parts in ((0, 0), (3, 16), (4, 16), (7, 0)):
                self.check(LEVEL, place, sides, "A F", parts)
                self.check(LEVEL, place, sides, "B F", parts)

    def test_halves_of_turns_over_one_another(self):
        # O, D, B and F are a rhombus, so the way from O to F halves that from B to D.
        text = CIRCLE + "dyad F D 1 B 1\ndyad G F 9 B 9\n"
        found = [sides for sides in range(4) if Sketch(text, 1, 1, sides).distance(*lines_of(text, "O F")) > 0.1]
        self.assertEqual(len(found), 2)
        for sides in found:
            for bit in (0, 4):
                self.check(text, (1, 1), sides + bit, "O F", 2 if sides % 2 == 0 else 26)


class AtOnePoint(unittest.TestCase):
    def check(self, text, place, sides, names, expected):
        i, j = lines_of(text, names)
        calls = [way(*place, sides, i, j, m) for m in range(1, 6)] + [way(*place, sides, j, i, 1)]
        found = {answer[0] for answer in answer_all(take(text), *calls)[1:]}
        self.assertEqual(found, {expected}, (text, place, sides, names))

    def test_the_same(self):
        self.check(PINS, (1, 1), 0, "A A", -5)
        self.check(TWINS, (1, 3), 1, "F F", -5)

    def test_a_crank_on_a_pin(self):
        text = "pin A 0 0\npin B 3 4\ncrank C A 5\n"
        self.check(text, (1, 2), 0, "B C", -5)
        self.check(text, (49, 99), 0, "B C", 0)

    def test_by_a_theorem(self):
        text = TWINS.replace("dyad F D 5 E 5\n", "")
        for sides, expected in ((0, -5), (3, -5), (1, 0), (2, 0)):
            self.check(text, (1, 3), sides, "D E", expected)
        i, j = lines_of(TWINS, "B F")
        for sides in (1, 2):
            answers = answer_all(take(TWINS), *[way(1, 3, sides + bit, i, j, 5) for bit in (0, 4)])[1:]
            self.assertEqual(sorted(answer[0] for answer in answers), [-5, 0])

    def test_a_rhombus_that_is_folded(self):
        text = CIRCLE + "dyad F D 1 B 1\n"
        answers = [answer_last(take(text), way(1, 1, sides, *lines_of(text, "O F"), 3)) for sides in range(4)]
        self.assertEqual(answers.count([-5]), 2)


class Parts(unittest.TestCase):
    def test_those_that_there_are_not(self):
        for m in (0, 6, 7, 64, 2 ** 32, BIG):
            self.assertEqual(answer_last(take(PINS), way(1, 1, 0, 0, 1, m)), [-1])
            self.assertEqual(answer_last(take(PINS), way(1, 1, 0, 0, 0, m)), [-1])

    def test_each(self):
        # From A to F: about 207 degrees.
        answers = answer_all(take(PINS), *[way(1, 1, 0, 0, 5, m) for m in range(1, 6)])[1:]
        self.assertEqual(answers, [[0, 1, 1], [0, 1, 2], [0, 1, 4], [0, 1, 9], [0, 1, 18]])


class AgainstASketch(unittest.TestCase):
    """The same sides and ways by numbers of 400 digits."""

    def check(self, chance, text, a, b):
        count = text.count("\n")
        for sides in range(1 << text.count("dyad")):
            sketch = Sketch(text, a, b, sides)
            calls, expected = [], []
            for m in range(1, 6):
                i, j, k = (chance.randrange(count) for _ in range(3))
                calls += [side(a, b, sides, i, j, k), way(a, b, sides, i, j, m)]
                if sketch.state != "closed":
                    expected += [[-3], [-3]]
                else:
                    at_one_point = sketch.at_one_point(i, j)
                    turn = [-5] if at_one_point else [0, 1, sketch.parts_of_turn(i, j, m)[0]]
                    expected += [[sketch.side(i, j, k)], turn]
            self.assertEqual(answer_all(take(text), *calls)[1:], expected, (text, a, b, sides))

    def test_small_linkages(self):
        chance = random.Random(8)
        for _ in range(80):
            self.check(chance, random_linkage(chance, 2), chance.randint(-2, 2), chance.choice((-2, -1, 1, 2)))

    def test_great_linkages(self):
        chance = random.Random(9)
        for _ in range(15):
            self.check(chance, random_linkage(chance, 300), chance.randint(-99, 99), chance.randint(1, 99))


if __name__ == "__main__":
    unittest.main()
