"""What several of the tests need: calls in their form, and a second, slower look at figures."""

import math
import struct
from decimal import Decimal, getcontext
from fractions import Fraction

from barfigures.desk import answers

getcontext().prec = 400
TINY = Decimal(10) ** -150


def take(text):
    """The call that takes a text, given as a str or as a list of bytes."""
    bytes_of_text = list(text.encode("latin-1")) if isinstance(text, str) else list(text)
    return [0, len(bytes_of_text)] + bytes_of_text


PRINT = [1]


def item(i):
    return [2, i]


def held(i, j):
    return [3, i, j]


def figures(a, b):
    return [4, a, b]


def point(a, b, sides, i, mode=0):
    return [5, a, b, sides, i, mode]


def answer_all(*calls):
    """The answers to the calls, each a list of its own."""
    flat = answers([number for call in calls for number in call])
    split = []
    while flat:
        split.append(flat[1:1 + flat[0]])
        flat = flat[1 + flat[0]:]
    return split


def answer_last(*calls):
    return answer_all(*calls)[-1]


def told(text, a, b):
    """The sides told and the loose ones."""
    answer = answer_last(take(text), figures(a, b))
    count = answer[0]
    assert answer[1] == count and answer[2 + count] == len(answer) - 3 - count, answer
    return answer[2:2 + count], answer[3 + count:]


def bits(number):
    """The 64 bits of a float."""
    return struct.unpack(">Q", struct.pack(">d", number))[0]


def float_of(pattern):
    return struct.unpack(">d", struct.pack(">Q", pattern))[0]


def where(text, a, b, sides, i):
    """The nearest doubles to a point's x and y, as floats."""
    answer = answer_last(take(text), point(a, b, sides, i))
    assert answer[:2] == [0, 2], answer
    return float_of(answer[2]), float_of(answer[3])


def rounded(number, mode):
    """A Fraction as a float."""
    nearest = number.numerator / number.denominator
    if mode == 0:
        return nearest
    if mode == 3:
        mode = 1 if number > 0 else 2
    if mode == 1 and Fraction(nearest) > number:
        return math.nextafter(nearest, -math.inf)
    if mode == 2 and Fraction(nearest) < number:
        return math.nextafter(nearest, math.inf)
    return nearest


def share(word):
    return Decimal(Fraction(word).numerator) / Decimal(Fraction(word).denominator)


class Sketch:
    """A figure by numbers of 400 digits; what differs by less than 150 of them counts as the same.

    state is "closed", "loose" or "broken"; touching is the list of the dyads whose circles touch.
    """

    def __init__(self, text, a, b, sides):
        self.points = {}
        self.state = "closed"
        self.touching = []
        self.dyads = 0
        for line in text.splitlines():
            words = line.split(" ")
            place = getattr(self, words[0])(a, b, sides, *words[2:])
            if self.state != "closed":
                return
            self.points[words[1]] = place
        if sides >> self.dyads:
            self.state = "broken"

    def pin(self, a, b, sides, x, y):
        return Decimal(x), Decimal(y)

    def crank(self, a, b, sides, pivot, radius):
        x, y = self.points[pivot]
        whole = Decimal(a * a + b * b)
        return x + int(radius) * (b * b - a * a) / whole, y + int(radius) * 2 * a * b / whole

    def rider(self, a, b, sides, first, second, along, across):
        (x, y), (x2, y2) = self.points[first], self.points[second]
        u, v = share(along), share(across)
        return x + u * (x2 - x) - v * (y2 - y), y + u * (y2 - y) + v * (x2 - x)

    def dyad(self, a, b, sides, first, first_length, second, second_length):
        (x, y), (x2, y2) = self.points[first], self.points[second]
        p, q = int(first_length), int(second_length)
        apart = ((x2 - x) ** 2 + (y2 - y) ** 2).sqrt()
        right = sides >> self.dyads & 1
        self.dyads += 1
        if apart < TINY:
            self.state = "loose" if p == q else "broken"
            return None
        if apart > p + q + TINY or apart < abs(p - q) - TINY:
            self.state = "broken"
            return None
        along = (p * p - q * q + apart * apart) / (2 * apart)
        height = max(p * p - along * along, Decimal(0)).sqrt()
        if abs(apart - p - q) < TINY or abs(apart - abs(p - q)) < TINY:
            self.touching.append(self.dyads - 1)
            height = Decimal(0)
        if right:
            height = -height
        way_x, way_y = (x2 - x) / apart, (y2 - y) / apart
        return x + along * way_x - height * way_y, y + along * way_y + height * way_x

    def is_told(self, sides):
        return self.state == "closed" and not any(sides >> k & 1 for k in self.touching)
