"""What several of the tests need: calls in their form, and a second, slower look at figures."""

import math
import struct
from decimal import Decimal, getcontext
from fractions import Fraction

from barfigures.desk import answers

getcontext().prec = 400
TINY = Decimal(10) ** -150


def take(text):
    """The call that takes a text, given as a str or as a list of bytes."""
    bytes_of_text = list(text.encode("latin-1")) if isinstance(text, str) else list(text)
    return [0, len(bytes_of_text)] + bytes_of_text


PRINT = [1]


def item(i):
    return [2, i]


def held(i, j):
    return [3, i, j]


def figures(a, b):
    return [4, a, b]


def point(a, b, sides, i, mode=0):
    return [5, a, b, sides, i, mode]


def far(a, b, sides, i, j, d):
    return [6, a, b, sides, i, j, d]


def alike(a, b, sides, i, j, k, l):
    return [7, a, b, sides, i, j, k, l]


def side(a, b, sides, i, j, k):
    return [8, a, b, sides, i, j, k]


def way(a, b, sides, i, j, m):
    return [9, a, b, sides, i, j, m]


MIRROR = [10]


def answer_all(*calls):
    """The answers to the calls, each a list of its own."""
    flat = answers([number for call in calls for number in call])
    split = []
    while flat:
        split.append(flat[1:1 + flat[0]])
        flat = flat[1 + flat[0]:]
    return split


def answer_last(*calls):
    return answer_all(*calls)[-1]


def told(text, a, b):
    """The sides told and the loose ones."""
    answer = answer_last(take(text), figures(a, b))
    count = answer[0]
    assert answer[1] == count and answer[2 + count] == len(answer) - 3 - count, answer
    return answer[2:2 + count], answer[3 + count:]


def bits(number):
    """The 64 bits of a float."""
    return struct.unpack(">Q", struct.pack(">d", number))[0]


def float_of(pattern):
    return struct.unpack(">d", struct.pack(">Q", pattern))[0]


def where(text, a, b, sides, i):
    """The nearest doubles to a point's x and y, as floats."""
    answer = answer_last(take(text), point(a, b, sides, i))
    assert answer[:2] == [0, 2], answer
    return float_of(answer[2]), float_of(answer[3])


def rounded(number, mode):
    """A Fraction as a float."""
    nearest = number.numerator / number.denominator
    if mode == 0:
        return nearest
    if mode == 3:
        mode = 1 if number > 0 else 2
    if mode == 1 and Fraction(nearest) > number:
        return math.nextafter(nearest, -math.inf)
    if mode == 2 and Fraction(nearest) < number:
        return math.nextafter(nearest, math.inf)
    return nearest


def lines_of(text, names):
    """The lines of points, given by their names with blanks between."""
    there = [line.split(" ")[1] for line in text.splitlines()]
    return [there.index(name) for name in names.split(" ")]


def share(word):
    return Decimal(Fraction(word).numerator) / Decimal(Fraction(word).denominator)


class Sketch:
    """A figure by numbers of 400 digits; what differs by less than 150 of them counts as the same.

    state is "closed", "loose" or "broken"; touching is the list of the dyads whose circles touch.
    """

    def __init__(self, text, a, b, sides):
        self.points = {}
        self.state = "closed"
        self.touching = []
        self.dyads = 0
        for line in text.splitlines():
            words = line.split(" ")
            place = getattr(self, words[0])(a, b, sides, *words[2:])
            if self.state != "closed":
                return
            self.points[words[1]] = place
        if sides >> self.dyads:
            self.state = "broken"

    def pin(self, a, b, sides, x, y):
        return Decimal(x), Decimal(y)

    def crank(self, a, b, sides, pivot, radius):
        x, y = self.points[pivot]
        whole = Decimal(a * a + b * b)
        return x + int(radius) * (b * b - a * a) / whole, y + int(radius) * 2 * a * b / whole

    def rider(self, a, b, sides, first, second, along, across):
        (x, y), (x2, y2) = self.points[first], self.points[second]
        u, v = share(along), share(across)
        return x + u * (x2 - x) - v * (y2 - y), y + u * (y2 - y) + v * (x2 - x)

    def dyad(self, a, b, sides, first, first_length, second, second_length):
        (x, y), (x2, y2) = self.points[first], self.points[second]
        p, q = int(first_length), int(second_length)
        apart = ((x2 - x) ** 2 + (y2 - y) ** 2).sqrt()
        right = sides >> self.dyads & 1
        self.dyads += 1
        if apart < TINY:
            self.state = "loose" if p == q else "broken"
            return None
        if apart > p + q + TINY or apart < abs(p - q) - TINY:
            self.state = "broken"
            return None
        along = (p * p - q * q + apart * apart) / (2 * apart)
        height = max(p * p - along * along, Decimal(0)).sqrt()
        if abs(apart - p - q) < TINY or abs(apart - abs(p - q)) < TINY:
            self.touching.append(self.dyads - 1)
            height = Decimal(0)
        if right:
            height = -height
        way_x, way_y = (x2 - x) / apart, (y2 - y) / apart
        return x + along * way_x - height * way_y, y + along * way_y + height * way_x

    def is_told(self, sides):
        return self.state == "closed" and not any(sides >> k & 1 for k in self.touching)

    def place_of(self, i):
        return list(self.points.values())[i]

    def way(self, i, j):
        (x, y), (x2, y2) = self.place_of(i), self.place_of(j)
        return x2 - x, y2 - y

    def distance(self, i, j):
        x, y = self.way(i, j)
        return (x * x + y * y).sqrt()

    def side(self, i, j, k):
        return 1 + sign(cross(self.way(i, j), self.way(i, k)))

    def at_one_point(self, i, j):
        return self.distance(i, j) < TINY

    def parts_of_turn(self, i, j, m):
        """How many whole 2^m-ths of a turn, and whether the way is along a border of these."""
        beyond = [sign(cross(border, self.way(i, j))) for border in borders(m)]
        if m == 1:
            x, _ = self.way(i, j)
            return (0 if beyond[0] > 0 or (beyond[0] == 0 and x > 0) else 1), beyond[0] == 0
        for k, side_of_border in enumerate(beyond):
            if side_of_border >= 0 > beyond[(k + 1) % len(beyond)]:
                return k, side_of_border == 0
        raise AssertionError("a way is in one of the parts")


def sign(number):
    """1, 0 or -1."""
    return 0 if abs(number) < TINY else (1 if number > 0 else -1)


def cross(way_there, other):
    return way_there[0] * other[1] - way_there[1] * other[0]


def borders(m):
    """The ways between the 2^m-ths of a turn, each 1 long."""
    x, y = Decimal(-1), Decimal(0)
    for _ in range(m - 1):
        # The half of the turn.
        x, y = ((1 + x) / 2).sqrt(), ((1 - x) / 2).sqrt()
    ways = [(Decimal(1), Decimal(0))]
    while len(ways) < 1 << m:
        ways.append((ways[-1][0] * x - ways[-1][1] * y, ways[-1][0] * y + ways[-1][1] * x))
    return ways


def compared(number, other):
    """0 less, 1 the same, 2 greater."""
    return 1 + sign(number - other)
