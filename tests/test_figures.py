"""figures: which sides are told and which are loose at a place (C2, C3, C6)."""

import random
import unittest

from helper import Sketch, answer_last, figures, take, told

# At (0, 1) the crank's pin C is at (1, 0), at (1, 0) it's at (-1, 0), at (1, 1) at (0, 1).
BARS = "pin A 0 0\npin B 4 0\ncrank C A 1\n"
# Whatever is at A, B and D, built over an equilateral triangle: D is at (1, root of 3) on side 0.
TRIANGLE = "pin A 0 0\npin B 2 0\ncrank C A 1\ndyad D A 2 B 2\n"


class Places(unittest.TestCase):
    def test_those_that_are_none(self):
        big = 2 ** 63 - 1
        for a, b in ((0, 0), (100, 0), (0, 100), (-100, 1), (1, -100), (100, 100), (big, 1), (1, -big), (-big, big)):
            self.assertEqual(answer_last(take(BARS), figures(a, b)), [-1], (a, b))

    def test_the_outermost(self):
        for a, b in ((99, 0), (0, 99), (-99, 0), (0, -99), (99, 99), (-99, -99), (-99, 98), (1, 0), (0, -1)):
            self.assertEqual(answer_last(take(BARS), figures(a, b)), [1, 1, 0, 0], (a, b))


class OneDyad(unittest.TestCase):
    def check(self, bars, a, b, sides, loose=()):
        self.assertEqual(told(BARS + bars, a, b), (list(sides), list(loose)), (bars, a, b))

    def test_circles_that_cross(self):
        self.check("dyad D C 2 B 2\n", 0, 1, [0, 1])
        self.check("dyad D C 3 B 2\n", 1, 1, [0, 1])

    def test_circles_that_touch_from_outside(self):
        self.check("dyad D C 1 B 2\n", 0, 1, [0])
        self.check("dyad D C 1 B 2\n", 0, -7, [0])
        self.check("dyad D B 2 C 1\n", 0, 1, [0])
        self.check("dyad D B 2 C 3\n", 1, 0, [0])

    def test_circles_that_touch_from_inside(self):
        self.check("dyad D C 5 B 2\n", 0, 1, [0])
        self.check("dyad D C 2 B 5\n", 0, 1, [0])
        self.check("dyad D C 999 B 994\n", 1, 0, [0])

    def test_circles_that_miss(self):
        self.check("dyad D C 1 B 2\n", 1, 0, [])
        self.check("dyad D C 1 B 2\n", 1, 1, [])
        self.check("dyad D C 6 B 2\n", 0, 1, [])
        self.check("dyad D C 2 B 6\n", 0, 1, [])

    def test_circles_that_just_cross_or_just_miss(self):
        # The crank's pin stands a little above the line through A and B.
        self.check("dyad D C 1 B 2\n", 1, 99, [])
        self.check("dyad D C 5 B 2\n", 1, 99, [0, 1])

    def test_one_point(self):
        text = "pin A 0 0\npin B 4 0\ncrank C A 4\n"
        self.assertEqual(told(text + "dyad D C 3 B 3\n", 0, 5), ([], [0, 1]))
        self.assertEqual(told(text + "dyad D C 3 B 4\n", 0, 5), ([], []))
        self.assertEqual(told(text + "dyad D C 4 B 3\n", 0, 5), ([], []))
        self.assertEqual(told(text + "dyad D C 3 B 3\n", 1, 5), ([0, 1], []))

    def test_one_point_of_riders(self):
        text = "pin A 0 0\npin B 4 2\ncrank C A 4\nrider D A B 1/2 1/3\nrider E B A 1/2 -1/3\n"
        self.assertEqual(told(text + "dyad F D 3 E 3\n", 3, 5), ([], [0, 1]))
        self.assertEqual(told(text + "dyad F D 3 E 2\n", 3, 5), ([], []))


class SeveralDyads(unittest.TestCase):
    def check(self, text, sides, loose=(), place=(2, 3)):
        self.assertEqual(told(text, *place), (list(sides), list(loose)), text)

    def test_none(self):
        self.check(BARS, [0])

    def test_sides_rise(self):
        self.check(BARS + "dyad D C 4 B 4\ndyad E C 4 A 4\n", [0, 1, 2, 3])
        self.check(BARS + "dyad D C 4 B 4\ndyad E D 5 A 4\ndyad F E 6 B 6\n", [0, 1, 2, 3, 4, 5, 6, 7])

    def test_the_bit_is_the_dyads_own(self):
        # Each of the three once touches, and the others cross.
        self.check(BARS + "dyad D C 2 B 1\ndyad E C 4 A 4\ndyad F B 4 A 4\n", [0, 2, 4, 6], place=(0, 1))
        self.check(BARS + "dyad E C 4 A 4\ndyad D C 2 B 1\ndyad F B 4 A 4\n", [0, 1, 4, 5], place=(0, 1))
        self.check(BARS + "dyad E C 4 A 4\ndyad F B 4 A 4\ndyad D C 2 B 1\n", [0, 1, 2, 3], place=(0, 1))

    def test_a_dyad_that_closes_on_one_side_of_another_only(self):
        # K is at (2, 2), near to one of the places of D, far from the other one below A and B.
        text = "pin A 0 0\npin B 4 0\ncrank C A 1\npin G 0 4\npin H 4 4\nrider K A B 1/2 1/2\n"
        self.check(text + "dyad D A 3 B 3\ndyad E D 1 K 1\n", [0, 2])
        self.check(text + "dyad D B 3 A 3\ndyad E D 1 K 1\n", [1, 3])
        self.check(text + "dyad D A 3 B 3\ndyad F G 3 H 3\ndyad E D 1 K 1\n", [0, 2, 4, 6])

    def test_touching_by_a_theorem(self):
        # The bar from A to D is 2 long wherever D is, so these are in line with it.
        self.check(TRIANGLE + "dyad E A 5 D 3\n", [0, 1])
        self.check(TRIANGLE + "dyad E A 1 D 1\n", [0, 1])
        self.check(TRIANGLE + "dyad E A 1 D 1\ndyad F E 4 D 5\n", [0, 1])
        self.check(TRIANGLE + "dyad E A 5 D 3\ndyad F E 1 A 1\n", [])
        odd = "pin A 0 0\npin B 7 3\ncrank C A 5\ndyad D C 6 B 7\ndyad E D 4 C 5\n"
        self.check(odd, [0, 1, 2, 3])
        self.check(odd + "dyad F E 3 D 1\n", [0, 1, 2, 3])
        self.check(odd + "dyad F E 2 D 2\n", [0, 1, 2, 3])
        self.check(odd + "dyad F E 17 D 21\n", [0, 1, 2, 3])
        self.check(odd + "dyad F E 17 D 22\n", [])
        self.check(odd + "dyad F E 2 D 1\n", [])
        self.check(odd + "dyad F E 3 D 2\n", [0, 1, 2, 3, 4, 5, 6, 7])

    def test_one_point_by_a_theorem(self):
        # Both dyads have the same bars: on the same side they are at one point.
        odd = "pin A 0 0\npin B 7 3\ncrank C A 5\ndyad D C 6 B 7\ndyad E C 6 B 7\n"
        self.check(odd + "dyad F D 3 E 3\n", [], [0, 3, 4, 7])
        self.check(odd + "dyad F D 3 E 2\n", [])
        self.check(odd + "dyad F D 9 E 9\n", [1, 2, 5, 6], [0, 3, 4, 7])
        self.check(odd + "dyad F D 9 E 8\n", [1, 2, 5, 6])
        turned = odd.replace("dyad E C 6 B 7", "dyad E B 7 C 6")
        self.check(turned + "dyad F D 9 E 9\n", [0, 3, 4, 7], [1, 2, 5, 6])

    def test_one_point_over_one_another(self):
        # A rhombus on D: E is A's counterpart, or A itself, and so is F.
        rhombus = TRIANGLE + "dyad E D 2 B 2\n"
        self.check(rhombus + "dyad F A 3 E 3\n", [0, 3, 4, 7], [1, 2, 5, 6])
        self.check(rhombus + "dyad F A 3 E 4\n", [0, 3, 4, 7])
        self.check(rhombus + "dyad F E 2 A 2\n", [0, 3, 4, 7], [1, 2, 5, 6])
        self.check(rhombus + "dyad F E 1 A 1\n", [], [1, 2, 5, 6])

    def test_loose_whatever_later_bits_are(self):
        loose = "pin A 0 0\npin B 4 0\ncrank C A 4\ndyad D C 3 B 3\n"
        self.check(loose + "dyad E C 9 A 9\n", [], [0, 1, 2, 3], place=(0, 1))
        self.check(loose + "dyad E C 99 A 9\ndyad F B 1 A 1\n", [], [0, 1, 2, 3, 4, 5, 6, 7], place=(0, 1))

    def test_not_loose_behind_one_that_does_not_close(self):
        text = "pin A 0 0\npin B 4 0\ncrank C A 4\ndyad E C 99 A 9\ndyad D C 3 B 3\n"
        self.check(text, [], place=(0, 1))

    def test_loose_behind_one_that_touches(self):
        text = "pin A 0 0\npin B 4 0\ncrank C A 4\ndyad E C 1 A 3\ndyad D C 3 B 3\n"
        self.check(text, [], [0, 1, 2, 3], place=(0, 1))

    def test_loose_on_one_side_only(self):
        text = "pin A 0 0\npin B 6 0\ncrank C A 4\nrider K A B 1/2 2/3\n"
        # D is at (3, 4), where K is, or at (3, -4).
        self.check(text + "dyad D A 5 B 5\ndyad E D 5 K 5\n", [1, 3], [0, 2])
        self.check(text + "dyad D A 5 B 5\ndyad E D 4 K 4\n", [1], [0, 2])
        self.check(text + "dyad D A 5 B 5\ndyad E D 3 K 5\n", [1])


class AgainstASketch(unittest.TestCase):
    """The same places by numbers of 400 digits."""

    def check(self, text, a, b):
        count = 1 << text.count("dyad")
        sketches = [Sketch(text, a, b, sides) for sides in range(count)]
        expected = ([sides for sides in range(count) if sketches[sides].is_told(sides)],
                    [sides for sides in range(count) if sketches[sides].state == "loose"])
        self.assertEqual(told(text, a, b), expected, (text, a, b))

    def test_small_linkages(self):
        chance = random.Random(1)
        for _ in range(400):
            self.check(random_linkage(chance, 2), chance.randint(-2, 2), chance.choice((-2, -1, 1, 2)))

    def test_great_linkages(self):
        chance = random.Random(2)
        for _ in range(60):
            self.check(random_linkage(chance, 300), chance.randint(-99, 99), chance.randint(1, 99))


def random_linkage(chance, size):
    """A linkage with three dyads, as great as told; small ones often touch or have points in common."""
    lines = ["pin A 0 0", f"pin B {chance.randint(1, size)} {chance.randint(-size, size)}"]
    lines.append(f"crank C A {chance.randint(1, size)}")
    points = ["A", "B", "C"]
    pairs = [("A", "B"), ("A", "C")]
    bars = []
    for name in ("D", "E", "F"):
        if chance.random() < 0.4:
            first, second = chance.choice(pairs)
            shares = [chance.choice(("0", "1", "-1", "2", "1/2", "-1/3", "3/4", "17/20")) for _ in range(2)]
            lines.append(f"rider {name}1 {first} {second} {shares[0]} {shares[1]}")
            points.append(name + "1")
        first, second = chance.sample(points[-4:], 2)
        lengths = [chance.randint((size + 1) // 2, 2 * size) for _ in range(2)]
        bars.append((first, lengths[0], second, chance.choice(lengths)))
        # A twin of an earlier dyad is at its point, or opposite to it.
        first, first_length, second, second_length = chance.choice(bars) if chance.random() < 0.3 else bars[-1]
        lines.append(f"dyad {name} {first} {first_length} {second} {second_length}")
        points.append(name)
        pairs += [(first, name), (name, second)]
    return "\n".join(lines) + "\n"


if __name__ == "__main__":
    unittest.main()
