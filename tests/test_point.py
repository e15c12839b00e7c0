"""point: where the points of a figure are, rounded once (C2, C6)."""

import math
import random
import unittest
from fractions import Fraction

from helper import Sketch, answer_all, answer_last, bits, point, rounded, take, told, where
from test_figures import random_linkage

BARS = "pin A 0 0\npin B 4 0\ncrank C A 1\n"
MODES = range(4)


def below(number):
    return math.nextafter(number, -math.inf)


def above(number):
    return math.nextafter(number, math.inf)


class PointCase(unittest.TestCase):
    def check(self, text, place, sides, i, x, y):
        """x and y: a float that's the same by each mode, or the floats of the four modes."""
        for mode in MODES:
            answer = answer_last(take(text), point(place[0], place[1], sides, i, mode))
            expected = [bits(number[mode] if isinstance(number, tuple) else number) for number in (x, y)]
            self.assertEqual(answer, [0, 2] + expected, (text, place, sides, i, mode))


class RationalPoints(PointCase):
    def test_pins(self):
        self.check(BARS, (2, 3), 0, 0, 0.0, 0.0)
        self.check(BARS, (2, 3), 0, 1, 4.0, 0.0)
        self.check("pin A -999 999\ncrank B A 1\n", (1, 1), 0, 0, -999.0, 999.0)
        self.check("pin A 7 -3\ncrank B A 1\n", (1, 1), 0, 0, 7.0, -3.0)

    def test_the_crank_at_quarters(self):
        text = "pin A 0 0\ncrank C A 5\n"
        self.check(text, (0, 1), 0, 1, 5.0, 0.0)
        self.check(text, (1, 1), 0, 1, 0.0, 5.0)
        self.check(text, (1, 0), 0, 1, -5.0, 0.0)
        self.check(text, (-1, 1), 0, 1, 0.0, -5.0)
        self.check(text, (1, -1), 0, 1, 0.0, -5.0)
        self.check(text, (-1, -1), 0, 1, 0.0, 5.0)
        self.check(text, (0, -99), 0, 1, 5.0, 0.0)
        self.check(text, (-99, 0), 0, 1, -5.0, 0.0)

    def test_the_crank_elsewhere(self):
        text = "pin A 10 20\ncrank C A 5\n"
        self.check(text, (1, 2), 0, 1, 13.0, 24.0)
        self.check(text, (2, 1), 0, 1, 7.0, 24.0)
        self.check(text, (-2, 1), 0, 1, 7.0, 16.0)
        self.check(text, (99, 33), 0, 1, 6.0, 23.0)

    def test_values_between_two_doubles(self):
        self.assertLess(Fraction(1 / 3), Fraction(1, 3))
        self.assertGreater(Fraction(1 / 5), Fraction(1, 5))
        text = "pin A 0 0\npin B 1 0\ncrank C A 1\nrider D A B 1/3 1/5\nrider E A B -1/3 -1/5\n"
        third = (1 / 3, 1 / 3, above(1 / 3), 1 / 3)
        fifth = (1 / 5, below(1 / 5), 1 / 5, below(1 / 5))
        self.check(text, (1, 1), 0, 3, third, fifth)
        third = (-1 / 3, below(-1 / 3), -1 / 3, -1 / 3)
        fifth = (-1 / 5, -1 / 5, above(-1 / 5), above(-1 / 5))
        self.check(text, (1, 1), 0, 4, third, fifth)

    def test_riders(self):
        text = "pin A 1 1\npin B 5 3\ncrank C A 1\n"
        self.check(text + "rider D A B 1/2 0\n", (1, 1), 0, 3, 3.0, 2.0)
        self.check(text + "rider D A B 0 1/2\n", (1, 1), 0, 3, 0.0, 3.0)
        self.check(text + "rider D A B 0 -1/2\n", (1, 1), 0, 3, 2.0, -1.0)
        self.check(text + "rider D B A 1/4 3/4\n", (1, 1), 0, 3, 5.5, -0.5)
        self.check(text + "rider D A B 999 -999\n", (1, 1), 0, 3, 1.0 + 999 * 6, 1.0 - 999 * 2)
        self.check(text + "rider D A C 2 3\n", (1, 1), 0, 3, -2.0, 3.0)
        self.check(text + "rider D C A 2 3\n", (1, 1), 0, 3, 4.0, 0.0)

    def test_a_crank_about_a_rider(self):
        text = "pin A 0 0\npin B 3 0\nrider D A B 1/3 2/3\ncrank C D 5\nrider E D C 1/5 0\n"
        self.check(text, (1, 2), 0, 2, 1.0, 2.0)
        self.check(text, (1, 2), 0, 3, 4.0, 6.0)
        self.check(text, (1, 2), 0, 4, (1.6, below(1.6), 1.6, below(1.6)), (2.8, 2.8, above(2.8), 2.8))

    def test_the_whole_figure_must_close(self):
        text = BARS + "dyad D C 1 B 2\n"
        for i in range(4):
            self.assertEqual(answer_last(take(text), point(1, 0, 0, i)), [-3])


class Dyads(PointCase):
    def test_left_and_right(self):
        text = "pin A 0 0\npin B 6 0\ncrank C A 1\ndyad D A 5 B 5\n"
        self.check(text, (2, 3), 0, 3, 3.0, 4.0)
        self.check(text, (2, 3), 1, 3, 3.0, -4.0)
        text = "pin A 0 0\npin B 6 0\ncrank C A 1\ndyad D B 5 A 5\n"
        self.check(text, (2, 3), 0, 3, 3.0, -4.0)
        self.check(text, (2, 3), 1, 3, 3.0, 4.0)
        text = "pin A 0 0\npin B 0 4\ncrank C A 1\ndyad D A 3 B 5\n"
        self.check(text, (2, 3), 0, 3, -3.0, 0.0)
        self.check(text, (2, 3), 1, 3, 3.0, 0.0)

    def test_touching_whatever_the_bit(self):
        for sides in (0, 1):
            self.check(BARS + "dyad D C 1 B 2\n", (0, 1), sides, 3, 2.0, 0.0)
            self.check(BARS + "dyad D C 5 B 2\n", (0, 1), sides, 3, 6.0, 0.0)
            self.check(BARS + "dyad D C 2 B 5\n", (0, 1), sides, 3, -1.0, 0.0)
        self.assertEqual(told(BARS + "dyad D C 1 B 2\n", 0, 1)[0], [0])

    def test_a_root(self):
        text = "pin A 0 0\npin B 2 0\ncrank C A 1\ndyad D A 2 B 2\n"
        root = 3 ** 0.5
        self.assertLess(Fraction(root) ** 2, 3)
        self.check(text, (2, 3), 0, 3, 1.0, (root, root, above(root), root))
        self.check(text, (2, 3), 1, 3, 1.0, (-root, below(-root), -root, -root))
        text = "pin A 0 0\npin B 4 0\ncrank C A 1\ndyad D A 3 B 3\n"
        root = 5 ** 0.5
        self.assertGreater(Fraction(root) ** 2, 5)
        self.check(text, (2, 3), 0, 3, 2.0, (root, below(root), root, below(root)))
        self.check(text, (2, 3), 1, 3, 2.0, (-root, -root, above(-root), above(-root)))

    def test_a_rider_of_a_dyads_bar(self):
        text = "pin A 0 0\npin B 6 0\ncrank C A 1\ndyad D A 5 B 5\nrider E A D 1/2 1/4\nrider F D B 1/2 0\n"
        self.check(text, (2, 3), 0, 4, 0.5, 2.75)
        self.check(text, (2, 3), 1, 4, 2.5, -1.25)
        self.check(text, (2, 3), 1, 5, 4.5, -2.0)

    def test_numbers_that_are_whole_though_roots_make_them(self):
        # D and E lie opposite to one another over A and B, and F is at A or at B.
        text = "pin A 0 0\npin B 2 0\ncrank C A 1\ndyad D A 2 B 2\ndyad E B 2 A 2\ndyad F D 2 E 2\n"
        for place in ((1, 1), (97, -89)):
            self.check(text, place, 0, 5, 2.0, 0.0)
            self.check(text, place, 4, 5, 0.0, 0.0)
            self.check(text, place, 3, 5, 0.0, 0.0)
            self.check(text, place, 7, 5, 2.0, 0.0)

    def test_points_met_again_by_dyads_over_one_another(self):
        # D and E lie opposite to one another over B and C, so one place of F is at B, or at C.
        text = "pin A 0 0\npin B 5 -3\ncrank C A 7\ndyad D C 6 B 5\ndyad E C 6 B 5\ndyad F D {0} E {0}\n"
        for place in ((1, 3), (-2, 7), (88, 99), (-19, 96)):
            for length, i in ((5, 1), (6, 2)):
                for mode in MODES:
                    calls = [point(*place, sides, k, mode) for sides in (1, 5, 2, 6) for k in (i, 5)]
                    answers = answer_all(take(text.format(length)), *calls)[1:]
                    self.assertEqual((answers[0] == answers[1]) + (answers[2] == answers[3]), 1)
                    self.assertEqual((answers[4] == answers[5]) + (answers[6] == answers[7]), 1)


class Refusals(unittest.TestCase):
    text = BARS + "dyad D C 2 B 2\n"

    def check(self, expected, *numbers):
        self.assertEqual(answer_last(take(self.text), point(*numbers)), [expected], numbers)

    def test_no_place_or_no_mode(self):
        big = 2 ** 63 - 1
        for a, b in ((0, 0), (100, 1), (1, 100), (-100, 1), (1, -100), (big, -big)):
            self.check(-1, a, b, 0, 0, 0)
        self.check(-1, 0, 1, 0, 0, 4)
        self.check(-1, 0, 1, 0, 0, big)

    def test_no_such_line(self):
        self.check(-4, 0, 1, 0, 4, 0)
        self.check(-4, 0, 1, 0, 2 ** 63 - 1, 0)

    def test_sides_that_do_not_close(self):
        self.check(-3, 1, 0, 0, 0, 0)
        self.check(-3, 0, 1, 2, 0, 0)
        self.check(-3, 0, 1, 3, 3, 0)
        self.check(-3, 0, 1, 2 ** 62, 0, 0)
        self.check(-3, 0, 1, 2 ** 63 - 1, 0, 0)

    def test_loose_sides(self):
        text = "pin A 0 0\npin B 4 0\ncrank C A 4\ndyad D C 3 B 3\n"
        for sides in range(4):
            self.assertEqual(answer_last(take(text), point(0, 1, sides, 0)), [-3])

    def test_a_bit_without_a_dyad(self):
        self.assertEqual(answer_all(take(BARS), point(0, 1, 0, 0), point(0, 1, 1, 0))[1:], [[0, 2, 0, 0], [-3]])

    def test_their_order(self):
        self.check(-1, 0, 0, 9, 9, 9)
        self.check(-1, 0, 1, 9, 9, 9)
        self.check(-1, 0, 0, 9, 9, 0)
        self.check(-4, 0, 1, 9, 9, 0)
        self.check(-4, 1, 0, 0, 9, 3)
        self.check(-3, 0, 1, 9, 3, 3)


class AgainstASketch(unittest.TestCase):
    """The same points by numbers of 400 digits: x and y by each mode, and how long the bars are."""

    def check(self, text, a, b):
        for sides in range(1 << text.count("dyad")):
            sketch = Sketch(text, a, b, sides)
            calls = [point(a, b, sides, i, mode) for i in range(text.count("\n")) for mode in MODES]
            answers = answer_all(take(text), *calls)[1:]
            if sketch.state != "closed":
                self.assertEqual(answers, [[-3]] * len(calls))
                continue
            places = [sketch.points[line.split(" ")[1]] for line in text.splitlines()]
            expected = [[0, 2] + [expected_bits(number, mode) for number in place]
                        for place in places for mode in MODES]
            self.assertEqual(answers, expected, (text, a, b, sides))

    def test_small_linkages(self):
        chance = random.Random(3)
        for _ in range(40):
            self.check(random_linkage(chance, 2), chance.randint(-2, 2), chance.choice((-2, -1, 1, 2)))

    def test_great_linkages(self):
        chance = random.Random(4)
        for _ in range(12):
            self.check(random_linkage(chance, 300), chance.randint(-99, 99), chance.randint(1, 99))

    def test_bars_and_sides(self):
        chance = random.Random(5)
        for _ in range(40):
            text = random_linkage(chance, 20)
            a, b = chance.randint(-9, 9), chance.randint(1, 9)
            for sides in told(text, a, b)[0]:
                self.check_bars(text, a, b, sides)

    def check_bars(self, text, a, b, sides):
        lines = [line.split(" ") for line in text.splitlines()]
        places = {words[1]: where(text, a, b, sides, i) for i, words in enumerate(lines)}
        dyads = [words for words in lines if words[0] == "dyad"]
        for k, (_, name, first, first_length, second, second_length) in enumerate(dyads):
            self.assertAlmostEqual(math.dist(places[name], places[first]), int(first_length), 9)
            self.assertAlmostEqual(math.dist(places[name], places[second]), int(second_length), 9)
            (x, y), (x1, y1), (x2, y2) = places[name], places[first], places[second]
            left = (x2 - x1) * (y - y1) - (y2 - y1) * (x - x1)
            self.assertGreater(left * (-1 if sides >> k & 1 else 1), -1e-6)


def expected_bits(number, mode):
    # What differs from 0 or from a short fraction by so little is that: its digits end there.
    exact = Fraction(number).limit_denominator(10 ** 40)
    if abs(exact - Fraction(number)) > Fraction(1, 10 ** 150):
        exact = Fraction(number)
    return bits(rounded(exact, mode))


if __name__ == "__main__":
    unittest.main()
