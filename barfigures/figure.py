"""A figure: the points of a linkage at a place of the crank, with each dyad on a given side."""

from barfigures.linkage import CRANK, DYAD, PIN
from barfigures.surds import add, multiply, scale, sign, square, subtract, times_root, without_common_factor

CLOSED = 0
LOOSE = 1
BROKEN = 2

GREATEST_OF_PLACE = 99


# A point at (x / under, y / under); the three are surds, and under is above 0.
class Spot:
    def __init__(self, x, y, under):
        self.x = x
        self.y = y
        self.under = under


# The way from a point at start_x, start_y to another one, by x and y; all four are over under.
class Way:
    def __init__(self, start_x, start_y, x, y, under):
        self.start_x = start_x
        self.start_y = start_y
        self.x = x
        self.y = y
        self.under = under


# The spots of the lines so far, and how many of these are dyads.
# touching has a bit for each dyad whose circles touch.
class Figure:
    def __init__(self, a, b, sides):
        self.a = a
        self.b = b
        self.sides = sides
        self.state = CLOSED
        self.spots = []
        self.radicands = []
        self.dyads = 0
        self.touching = 0

    # What's built over the spot has numbers several times as long as its own, so these are kept short.
    def add_spot(self, spot):
        short = without_common_factor([spot.x, spot.y, spot.under])
        self.spots.append(Spot(short[0], short[1], short[2]))

    def is_told(self):
        return self.state == CLOSED and self.sides & self.touching == 0


def is_place(a, b):
    if a == 0 and b == 0:
        return False
    return abs(a) <= GREATEST_OF_PLACE and abs(b) <= GREATEST_OF_PLACE


# The figure, as far as it closes.
def build_figure(linkage, a, b, sides):
    figure = Figure(a, b, sides)
    for line in linkage.lines:
        if figure.state == CLOSED:
            add_line(figure, line)
    if figure.state == CLOSED and sides >> figure.dyads != 0:
        figure.state = BROKEN
    return figure


def add_line(figure, line):
    if line.kind == PIN:
        figure.add_spot(Spot([line.numbers[0]], [line.numbers[1]], [1]))
    elif line.kind == CRANK:
        figure.add_spot(cranked(figure, line))
    elif line.kind == DYAD:
        add_dyad(figure, line)
    else:
        figure.add_spot(ridden(figure, line))


def cranked(figure, line):
    pivot = figure.spots[line.first]
    radius = line.numbers[0]
    along = radius * (figure.b * figure.b - figure.a * figure.a)
    across = radius * 2 * figure.a * figure.b
    whole = figure.b * figure.b + figure.a * figure.a
    x = add(scale(pivot.x, whole), scale(pivot.under, along))
    y = add(scale(pivot.y, whole), scale(pivot.under, across))
    return Spot(x, y, scale(pivot.under, whole))


def ridden(figure, line):
    way = way_between(figure, line.first, line.second)
    along = line.numbers[0] * line.numbers[3]
    across = line.numbers[2] * line.numbers[1]
    whole = line.numbers[1] * line.numbers[3]
    x = subtract(scale(way.x, along), scale(way.y, across))
    y = add(scale(way.y, along), scale(way.x, across))
    return Spot(add(scale(way.start_x, whole), x), add(scale(way.start_y, whole), y), scale(way.under, whole))


# The way from point i to point j.
def way_between(figure, i, j):
    first = figure.spots[i]
    second = figure.spots[j]
    # Points of one piece often are over the same surd already, and its square would only be longer.
    if first.under == second.under:
        return Way(first.x, first.y, subtract(second.x, first.x), subtract(second.y, first.y), first.under)
    roots = figure.radicands
    start_x = multiply(first.x, second.under, roots)
    start_y = multiply(first.y, second.under, roots)
    x = subtract(multiply(second.x, first.under, roots), start_x)
    y = subtract(multiply(second.y, first.under, roots), start_y)
    return Way(start_x, start_y, x, y, multiply(first.under, second.under, roots))


# Over the square of way.under.
def squared_length(way, roots):
    return add(square(way.x, roots), square(way.y, roots))


def add_dyad(figure, line):
    roots = figure.radicands
    way = way_between(figure, line.first, line.second)
    first_length = line.numbers[0]
    second_length = line.numbers[1]
    # Squares of lengths, all over the square of way.under: no root is needed to see how circles lie.
    apart = squared_length(way, roots)
    unit = square(way.under, roots)
    above_least = subtract(apart, scale(unit, (first_length - second_length) ** 2))
    below_most = subtract(scale(unit, (first_length + second_length) ** 2), apart)
    inner = sign(above_least, roots)
    outer = sign(below_most, roots)
    if inner < 0 or outer < 0:
        figure.state = BROKEN
    elif inner == 0 and first_length == second_length:
        # The least distance is 0 here, so P and Q are at one point.
        figure.state = LOOSE
    else:
        spot = foot_of_dyad(way, apart, scale(unit, first_length ** 2 - second_length ** 2), roots)
        if inner == 0 or outer == 0:
            figure.touching |= 1 << figure.dyads
        else:
            spot = raised(figure, spot, way)
            roots.append(multiply(above_least, below_most, roots))
        figure.add_spot(spot)
        figure.dyads += 1


# The point of the line through P and Q that lies between both places at which the circles meet.
def foot_of_dyad(way, apart, excess, roots):
    share = add(apart, excess)
    twice = scale(apart, 2)
    x = add(multiply(twice, way.start_x, roots), multiply(share, way.x, roots))
    y = add(multiply(twice, way.start_y, roots), multiply(share, way.y, roots))
    return Spot(x, y, multiply(twice, way.under, roots))


# The foot moved to the dyad's side: by the way turned to the left, times the root that's new with this dyad.
def raised(figure, foot, way):
    root = len(figure.radicands)
    turn = -1 if (figure.sides >> figure.dyads) % 2 == 1 else 1
    x = subtract(foot.x, scale(times_root(way.y, root), turn))
    y = add(foot.y, scale(times_root(way.x, root), turn))
    return Spot(x, y, foot.under)
