"""How the points of a figure lie to one another; all of it is decided exactly, by signs."""

from barfigures.figure import squared_length, way_between
from barfigures.surds import multiply, scale, sign, square, subtract, without_common_factor

BITS_OF_EIGHTH = 3


# -1, 0 or 1: the distance of i and j is less than number, the same or greater.
def distance_against(figure, i, j, number):
    roots = figure.radicands
    way = way_between(figure, i, j)
    bound = scale(square(way.under, roots), number * number)
    return sign(subtract(squared_length(way, roots), bound), roots)


# -1, 0 or 1: the distance of i and j is less than that of k and l, the same or greater.
def distances_compared(figure, i, j, k, l):
    roots = figure.radicands
    way = way_between(figure, i, j)
    other = way_between(figure, k, l)
    apart = multiply(squared_length(way, roots), square(other.under, roots), roots)
    other_apart = multiply(squared_length(other, roots), square(way.under, roots), roots)
    return sign(subtract(apart, other_apart), roots)


# -1, 0 or 1: k is on the right of the way from i to j, in line or on the left.
def side_of_way(figure, i, j, k):
    roots = figure.radicands
    way = way_between(figure, i, j)
    other = way_between(figure, i, k)
    return sign(subtract(multiply(way.x, other.y, roots), multiply(way.y, other.x, roots)), roots)


def are_at_one_point(figure, i, j):
    way = way_between(figure, i, j)
    return sign(way.x, figure.radicands) == 0 and sign(way.y, figure.radicands) == 0


# How many whole 2^m-ths of a turn the way lies from that of rising x; i and j aren't at one point.
def parts_of_turn(figure, i, j, m):
    roots = figure.radicands
    way = way_between(figure, i, j)
    x = way.x
    y = way.y
    parts = eighth_of_turn(x, y, roots)
    for further in range(BITS_OF_EIGHTH, m):
        # The square as of a complex number: its turn is twice as great, so the next bit of ours is its eighth's last.
        short = without_common_factor([subtract(square(x, roots), square(y, roots)), scale(multiply(x, y, roots), 2)])
        x = short[0]
        y = short[1]
        parts = 2 * parts + eighth_of_turn(x, y, roots) % 2
    return parts >> max(BITS_OF_EIGHTH - m, 0)


def eighth_of_turn(x, y, roots):
    eighth = 0
    if not is_in_first_half(x, y, roots):
        x = scale(x, -1)
        y = scale(y, -1)
        eighth += 4
    if sign(x, roots) <= 0:
        # Turned back by a quarter.
        ahead = y
        y = scale(x, -1)
        x = ahead
        eighth += 2
    if sign(subtract(y, x), roots) >= 0:
        eighth += 1
    return eighth


def is_in_first_half(x, y, roots):
    height = sign(y, roots)
    return height > 0 or (height == 0 and sign(x, roots) > 0)
