"""The exact numbers behind figures and points: surds, and how they're rounded."""

import math
import unittest

from barfigures.doubles import double_of, root_below
from barfigures.surds import add, multiply, sign, square, subtract, times_root
from helper import bits

LEAST = math.ulp(0.0)


def power(surd, exponent, radicands):
    result = [1]
    for _ in range(exponent):
        result = multiply(result, surd, radicands)
    return result


class Surds(unittest.TestCase):
    def test_whole_numbers(self):
        self.assertEqual([sign([n], []) for n in (-5, 0, 7)], [-1, 0, 1])
        self.assertEqual(add([2], [3]), [5])
        self.assertEqual(subtract([2], [3]), [-1])
        self.assertEqual(multiply([2], [-3], []), [-6])

    def test_lengths_that_differ(self):
        self.assertEqual(add([1], [2, 3, 4, 5]), [3, 3, 4, 5])
        self.assertEqual(subtract([1, 1], [2]), [-1, 1])
        self.assertEqual(times_root([7], 1), [0, 0, 7, 0])
        self.assertEqual(multiply([1, 2, 3, 4], [5], [[2], [3]]), [5, 10, 15, 20])
        self.assertEqual(multiply([0, 1], [1, 2, 3, 4], [[2], [3]]), [4, 1, 8, 3])

    def test_squares_of_roots(self):
        radicands = [[2], [3, 1], [5, 0, 1, 1]]
        for k, radicand in enumerate(radicands):
            self.assertEqual(sign(subtract(square(times_root([1], k), radicands), radicand), radicands), 0)

    def test_signs_of_numbers_very_near_to_0(self):
        # 3 less twice the root of 2 is about 0.17.
        tiny = power([3, -2], 200, [[2]])
        self.assertEqual(sign(tiny, [[2]]), 1)
        self.assertEqual(sign(subtract([0], tiny), [[2]]), -1)
        for radicands in ([[2], tiny], [[2], tiny, [0, 0, 1, 0]]):
            half = 1 << (len(radicands) - 1)
            self.assertEqual(sign([0] * half + [1] + [0] * (half - 1), radicands), 1)
            self.assertEqual(sign([-1] + [0] * (half - 1) + [1] + [0] * (half - 1), radicands), -1)

    def test_0_in_other_forms(self):
        # The root of 4 is 2; that of 3 and twice the root of 2 is 1 and the root of 2.
        self.assertEqual(sign([2, -1], [[4]]), 0)
        self.assertEqual(sign([1, 1, -1, 0], [[2], [3, 2]]), 0)
        self.assertEqual(sign([-1, -1, 1, 0], [[2], [3, 2]]), 0)
        self.assertEqual(sign([1, 1, 1, 0], [[2], [3, 2]]), 1)
        self.assertEqual(sign([0, 0, 1, 0, -1, 0, 0, 0], [[2], [5], [5]]), 0)
        self.assertEqual(sign([0, 1, 1, 0, -1, 0, 0, 0], [[2], [3], [5, 0, 0, 2]]), 0)

    def test_roots(self):
        for number in list(range(200)) + [10 ** 40 - 1, 10 ** 40, 10 ** 40 + 1, 2 ** 201]:
            self.assertEqual(root_below(number), math.isqrt(number))


class Doubles(unittest.TestCase):
    def check(self, top, under, *expected, radicands=()):
        found = tuple(double_of(top, under, list(radicands), mode) for mode in range(4))
        self.assertEqual(found, tuple(bits(number) for number in expected))

    def test_ties(self):
        even, odd = 2.0 ** 53, 2.0 ** 53 + 2
        self.check([2 ** 53 + 1], [1], even, even, odd, even)
        self.check([-(2 ** 53) - 1], [1], -even, -odd, -even, -even)
        self.check([2 ** 53 + 3], [1], odd + 2, odd, odd + 2, odd)
        self.check([-(2 ** 53) - 3], [1], -odd - 2, -odd - 2, -odd, -odd)

    def test_just_beside_a_tie(self):
        even, odd = 2.0 ** 53, 2.0 ** 53 + 2
        great = 10 ** 300
        self.check([(2 ** 53 + 1) * great, 1], [great], odd, even, odd, even, radicands=[[2]])
        self.check([(2 ** 53 + 1) * great, -1], [great], even, even, odd, even, radicands=[[2]])
        self.check([(2 ** 53 + 3) * great, -1], [great], odd, odd, odd + 2, odd, radicands=[[2]])

    def test_just_beside_a_double(self):
        great = 10 ** 300
        self.check([great, 1], [great], 1.0, 1.0, 1.0 + math.ulp(1.0), 1.0, radicands=[[2]])
        self.check([great, -1], [great], 1.0, 1.0 - LAST, 1.0, 1.0 - LAST, radicands=[[2]])
        self.check([-great, -1], [great], -1.0, -1.0 - math.ulp(1.0), -1.0, -1.0, radicands=[[2]])
        self.check([-great, 1], [great], -1.0, -1.0, -1.0 + LAST, -1.0 + LAST, radicands=[[2]])

    def test_nearer_to_a_double_than_a_first_look_can_tell(self):
        # 3 less twice the root of 2 is about 0.17, and the numbers of its powers' lists are great.
        for exponent in (50, 60, 70, 140):
            tiny = power([3, -2], exponent, [[2]])
            self.check(add([1], tiny), [1], 1.0, 1.0, 1.0 + math.ulp(1.0), 1.0, radicands=[[2]])
            self.check(subtract([1], tiny), [1], 1.0, 1.0 - LAST, 1.0, 1.0 - LAST, radicands=[[2]])
            self.check(subtract(tiny, [1]), [1], -1.0, -1.0, -1.0 + LAST, -1.0 + LAST, radicands=[[2]])

    def test_just_a_double_with_roots(self):
        self.check([0, 3], [2], 3.0, 3.0, 3.0, 3.0, radicands=[[4]])
        self.check([0, 6], [0, 2], 3.0, 3.0, 3.0, 3.0, radicands=[[2]])
        self.check([-1, -1, 2, 0], [0, 0, 1, 0], 1.0, 1.0, 1.0, 1.0, radicands=[[2], [3, 2]])

    def test_rounding_up_to_a_power_of_2(self):
        self.check([2 ** 60 - 1], [2 ** 60], 1.0, 1.0 - LAST, 1.0, 1.0 - LAST)
        self.check([1 - 2 ** 60], [2 ** 60], -1.0, -1.0, -1.0 + LAST, -1.0 + LAST)

    def test_0(self):
        self.check([0], [5], 0.0, 0.0, 0.0, 0.0)
        self.check([2, -1], [5], 0.0, 0.0, 0.0, 0.0, radicands=[[4]])

    def test_the_smallest_doubles(self):
        self.check([1], [2 ** 1074], LEAST, LEAST, LEAST, LEAST)
        self.check([-3], [2 ** 1074], -3 * LEAST, -3 * LEAST, -3 * LEAST, -3 * LEAST)
        self.check([1], [2 ** 1075], 0.0, 0.0, LEAST, 0.0)
        self.check([-1], [2 ** 1075], -0.0, -LEAST, -0.0, -0.0)
        self.check([3], [2 ** 1075], 2 * LEAST, LEAST, 2 * LEAST, LEAST)
        self.check([3], [2 ** 1076], LEAST, 0.0, LEAST, 0.0)
        self.check([1], [2 ** 3000], 0.0, 0.0, LEAST, 0.0)
        self.check([-1], [2 ** 3000], -0.0, -LEAST, -0.0, -0.0)
        self.check([1], [2 ** 1022], 2.0 ** -1022, 2.0 ** -1022, 2.0 ** -1022, 2.0 ** -1022)
        self.check([2 ** 60 - 1], [2 ** 1082], 2.0 ** -1022, 2.0 ** -1022 - LEAST, 2.0 ** -1022, 2.0 ** -1022 - LEAST)

    def test_roots_very_near_to_0(self):
        tiny = power([3, -2], 20, [[2]])
        nearest = (3 + 2 * 2 ** 0.5) ** -20
        found = [double_of(tiny, [1], [[2]], mode) for mode in range(4)]
        self.assertAlmostEqual(found[0] - bits(nearest), 0, delta=100)
        self.assertEqual(found[2] - found[1], 1)
        self.assertEqual(found[3], found[1])
        self.check(power([3, -2], 1000, [[2]]), [1], 0.0, 0.0, LEAST, 0.0, radicands=[[2]])


# The way from 1 to the double before it.
LAST = math.ulp(1.0) / 2


if __name__ == "__main__":
    unittest.main()
