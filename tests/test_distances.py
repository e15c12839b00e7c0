"""far and alike: distances against a number and against one another, exactly (C4)."""

import random
import unittest

from helper import Sketch, alike, answer_all, answer_last, compared, far, lines_of, take
from test_figures import random_linkage

BIG = 2 ** 63 - 1
PINS = "pin A 0 0\npin B 3 4\npin C 3 0\npin D -999 -999\npin E 999 999\ncrank F A 5\n"
# On sides 0 and 3 E is D moved by the way from A to B; then F is D moved by that from A to G, if it's on the left.
MOVED = ("pin A 0 0\npin B 6 0\npin G 3 4\npin H 11 3\ncrank C A 1\n"
         "dyad D A 7 H 8\ndyad E D 6 B 7\ndyad F D 5 E 5\n")
# D's bars and E's are the same: on one side of C and B they are at one point. F may be at B.
TWINS = "pin A 0 0\npin B 5 -3\ncrank C A 7\ndyad D C 6 B 5\ndyad E C 6 B 5\ndyad F D 5 E 5\n"
# N and O lie to E and F as to D and F, mirrored; all over one another.
KITES = ("pin A 0 0\npin B 5 1\npin G 2 3\ncrank C A 3\ndyad D A 4 C 3\ndyad E D 5 G 4\ndyad F E 4 D 4\n"
         "rider M D E 1/2 0\nrider N E F 1/3 2\nrider O D F 1/3 -2\nrider R D E 3/5 -4/5\n")
KITES_CLOSED = [(place, sides) for place in ((1, 2), (1, 1), (-3, 5), (70, 99)) for sides in range(8)
                if Sketch(KITES, *place, sides).state == "closed"]
TOUCHING = "pin A 0 0\npin B 4 0\ncrank C A 1\ndyad D C 1 B 2\n"


class FarCase(unittest.TestCase):
    def check(self, text, place, sides, names, d, expected):
        i, j = lines_of(text, names)
        calls = [far(*place, sides, i, j, d), far(*place, sides, j, i, d)]
        self.assertEqual(answer_all(take(text), *calls)[1:], [[expected]] * 2, (text, place, sides, names, d))

    def check_whole(self, text, place, sides, names, d):
        """The distance is just d."""
        self.check(text, place, sides, names, d - 1, 2)
        self.check(text, place, sides, names, d, 1)
        self.check(text, place, sides, names, d + 1, 0)


class Far(FarCase):
    def test_whole_distances(self):
        self.check_whole(PINS, (1, 1), 0, "A B", 5)
        self.check_whole(PINS, (1, 1), 0, "A C", 3)
        self.check_whole(PINS, (1, 1), 0, "B C", 4)
        self.check_whole(PINS, (97, -89), 0, "A F", 5)

    def test_distances_between_two_whole_numbers(self):
        # 1998 times the root of 2 is 2825.59.
        self.check(PINS, (1, 1), 0, "D E", 2825, 2)
        self.check(PINS, (1, 1), 0, "D E", 2826, 0)
        # From (4, 3) to (3, 4) it's the root of 2.
        self.check(PINS, (1, 3), 0, "B F", 1, 2)
        self.check(PINS, (1, 3), 0, "B F", 2, 0)

    def test_0(self):
        self.check(PINS, (1, 1), 0, "A B", 0, 2)
        self.check(PINS, (1, 1), 0, "A A", 0, 1)
        self.check(PINS, (1, 1), 0, "A A", 1, 0)
        self.check(PINS, (1, 2), 0, "B F", 0, 1)
        self.check(PINS, (49, 99), 0, "B F", 0, 2)

    def test_great_numbers(self):
        for names in ("A A", "A B", "D E", "A F"):
            for d in (2 ** 31, 2 ** 32, 2 ** 62, BIG):
                self.check(PINS, (1, 1), 0, names, d, 0)

    def test_great_distances(self):
        text = "pin A -999 0\npin B 999 0\ncrank C A 1\nrider R A B 999 0\nrider S A B -999 0\nrider T A B 0 999\n"
        self.check_whole(text, (1, 1), 0, "A R", 999 * 1998)
        self.check_whole(text, (1, 1), 0, "S R", 2 * 999 * 1998)
        # Times the root of 2: 2822773.09.
        self.check(text, (1, 1), 0, "R T", 2822773, 2)
        self.check(text, (1, 1), 0, "R T", 2822774, 0)

    def test_just_below_and_just_above(self):
        # Twice the square of 985 is 1 more than that of 1393; twice that of 408 is 1 less than that of 577.
        text = "pin A 0 0\npin B 985 985\npin D 408 408\ncrank C A 1\n"
        self.check(text, (1, 1), 0, "A B", 1393, 2)
        self.check(text, (1, 1), 0, "A B", 1394, 0)
        self.check(text, (1, 1), 0, "A D", 576, 2)
        self.check(text, (1, 1), 0, "A D", 577, 0)

    def test_the_crank_just_beside_a_whole_distance(self):
        text = "pin A 0 0\npin B 10 0\ncrank C A 999\n"
        self.check_whole(text, (0, 1), 0, "B C", 989)
        self.check(text, (1, 99), 0, "B C", 989, 2)
        self.check_whole(text, (1, 0), 0, "B C", 1009)
        self.check(text, (99, 1), 0, "B C", 1009, 0)

    def test_a_distance_with_a_root(self):
        # D is at (2, root of 5), E at (2, 2): they are 0.236 apart; D and B are 3, D and F 2 + root of 5.
        text = "pin A 0 0\npin B 4 0\npin E 2 2\npin F 2 -2\ncrank C A 1\ndyad D A 3 B 3\n"
        self.check(text, (1, 1), 0, "D E", 0, 2)
        self.check(text, (1, 1), 0, "D E", 1, 0)
        self.check_whole(text, (1, 1), 0, "D B", 3)
        self.check(text, (1, 1), 0, "D F", 4, 2)
        self.check(text, (1, 1), 0, "D F", 5, 0)
        self.check(text, (1, 1), 1, "D F", 0, 2)
        self.check(text, (1, 1), 1, "D F", 1, 0)

    def test_touching_whatever_the_bit(self):
        for sides in (0, 1):
            self.check_whole(TOUCHING, (0, 1), sides, "A D", 2)


class FarByTheorems(FarCase):
    def test_bars_over_one_another(self):
        for place, sides in KITES_CLOSED:
            for names, d in (("A D", 4), ("D C", 3), ("D E", 5), ("G E", 4), ("E F", 4), ("F D", 4)):
                self.check_whole(KITES, place, sides, names, d)

    def test_a_rider_as_far_as_its_bar_is_long(self):
        # 3/5 and 4/5 are the sides of a triangle whose third is 1.
        for place, sides in KITES_CLOSED:
            self.check_whole(KITES, place, sides, "D R", 5)

    def test_triangles_that_are_moved(self):
        for place in ((1, 1), (-98, 99)):
            for sides in (0, 3):
                self.check_whole(MOVED, place, sides, "F G", 7)
            self.check(MOVED, place, 1, "F G", 7, 2)
            self.check(MOVED, place, 2, "F G", 7, 0)

    def test_points_met_again(self):
        i, j, k, l = lines_of(TWINS, "B F D E")
        for place in ((1, 3), (-2, 7), (88, 99)):
            for sides in (1, 2):
                answers = answer_all(take(TWINS), far(*place, sides, i, j, 0), far(*place, sides + 4, i, j, 0))[1:]
                self.assertEqual(sorted(answers), [[1], [2]])
            self.assertEqual(answer_last(take(TWINS), far(*place, 1, k, l, 0)), [2])

    def test_twins_at_one_point(self):
        text = TWINS.replace("dyad F D 5 E 5\n", "")
        for sides, expected in ((0, 1), (3, 1), (1, 2), (2, 2)):
            self.check(text, (1, 3), sides, "D E", 0, expected)


class AlikeCase(unittest.TestCase):
    def check(self, text, place, sides, names, expected):
        """The points in each order that's the same question, and both distances changed over."""
        i, j, k, l = lines_of(text, names)
        orders = [(i, j, k, l), (j, i, k, l), (i, j, l, k), (j, i, l, k)]
        changed = [(k, l, i, j), (l, k, j, i)]
        answers = answer_all(take(text), *[alike(*place, sides, *order) for order in orders + changed])[1:]
        self.assertEqual(answers, [[expected]] * 4 + [[2 - expected]] * 2, (text, place, sides, names))


class Alike(AlikeCase):
    def test_less_the_same_and_greater(self):
        self.check(PINS, (1, 1), 0, "A C A B", 0)
        self.check(PINS, (1, 1), 0, "A B A F", 1)
        self.check(PINS, (1, 1), 0, "A B B C", 2)
        self.check(PINS, (97, 43), 0, "A B A F", 1)

    def test_points_given_twice(self):
        self.check(PINS, (1, 1), 0, "A A B B", 1)
        self.check(PINS, (1, 1), 0, "A A A A", 1)
        self.check(PINS, (1, 1), 0, "A A A B", 0)
        self.check(PINS, (1, 1), 0, "A B A B", 1)
        self.check(PINS, (1, 2), 0, "B F A A", 1)

    def test_distances_that_are_not_whole(self):
        text = "pin A 0 0\npin B 1 1\npin D 1 -1\npin E 7 1\npin F 5 5\ncrank C A 1\n"
        self.check(text, (1, 2), 0, "A B A D", 1)
        self.check(text, (1, 2), 0, "A E A F", 1)
        self.check(text, (1, 2), 0, "B C D C", 0)

    def test_just_less_and_just_greater(self):
        text = "pin A 0 0\npin B 999 999\npin D 998 999\npin E -999 -999\ncrank C A 999\n"
        self.check(text, (1, 2), 0, "A B A D", 2)
        self.check(text, (1, 2), 0, "D E B E", 0)
        self.check(text, (1, 2), 0, "B A A E", 1)

    def test_the_crank_just_beside_the_middle(self):
        # It's as far from B as from D at an eighth of a turn, whose half's tangent is less than 29/70 and
        # greater than 41/99.
        text = "pin A 0 0\npin B 1 0\ncrank C A 999\npin D 0 1\n"
        self.check(text, (29, 70), 0, "C B C D", 2)
        self.check(text, (41, 99), 0, "C B C D", 0)

    def test_roots_that_are_nearly_the_same(self):
        # C and D are on one circle through A; D is just at an eighth of a turn.
        text = "pin A -1 0\npin O 0 0\npin W 2 -2\ncrank C O 1\ndyad D O 1 W 3\n"
        self.check(text, (41, 99), 0, "A C A D", 2)
        self.check(text, (29, 70), 0, "A C A D", 0)
        self.check(text, (41, 99), 0, "O C O D", 1)

    def test_touching_whatever_the_bit(self):
        for sides in (0, 1):
            self.check(TOUCHING, (0, 1), sides, "A D D B", 1)
            self.check(TOUCHING, (0, 1), sides, "A C C D", 1)
            self.check(TOUCHING, (0, 1), sides, "A C A D", 0)


class AlikeByTheorems(AlikeCase):
    def test_kites_over_one_another(self):
        self.assertGreater(len(KITES_CLOSED), 7)
        for place, sides in KITES_CLOSED:
            for names in ("F E F D", "M E M D", "N E O D", "N D O E", "M N M O", "F N F O", "D R D E"):
                self.check(KITES, place, sides, names, 1)

    def test_triangles_that_are_moved(self):
        for sides in (0, 3):
            self.check(MOVED, (3, 4), sides, "F G E B", 1)
            self.check(MOVED, (3, 4), sides, "F G D A", 1)
        self.check(MOVED, (3, 4), 1, "F G D A", 2)
        self.check(MOVED, (3, 4), 2, "F G D A", 0)

    def test_points_met_again(self):
        # F is at B, or opposite to it over D and E.
        for place in ((1, 3), (-2, 7)):
            for sides in (1, 2, 5, 6):
                self.check(TWINS, place, sides, "F D B E", 1)
                self.check(TWINS, place, sides, "C D E C", 1)


class AgainstASketch(unittest.TestCase):
    """The same distances by numbers of 400 digits."""

    def check(self, chance, text, a, b):
        count = text.count("\n")
        for sides in range(1 << text.count("dyad")):
            sketch = Sketch(text, a, b, sides)
            closed = sketch.state == "closed"
            calls, expected = [], []
            for _ in range(6):
                i, j, k, l = (chance.randrange(count) for _ in range(4))
                calls.append(alike(a, b, sides, i, j, k, l))
                expected.append([compared(sketch.distance(i, j), sketch.distance(k, l)) if closed else -3])
                d = int(sketch.distance(i, j)) + chance.choice((0, 0, 1)) if closed else 1
                calls.append(far(a, b, sides, i, j, d))
                expected.append([compared(sketch.distance(i, j), d) if closed else -3])
            self.assertEqual(answer_all(take(text), *calls)[1:], expected, (text, a, b, sides))

    def test_small_linkages(self):
        chance = random.Random(6)
        for _ in range(80):
            self.check(chance, random_linkage(chance, 2), chance.randint(-2, 2), chance.choice((-2, -1, 1, 2)))

    def test_great_linkages(self):
        chance = random.Random(7)
        for _ in range(15):
            self.check(chance, random_linkage(chance, 300), chance.randint(-99, 99), chance.randint(1, 99))


if __name__ == "__main__":
    unittest.main()
