"""The desk: calls on one linkage are read from a list, and answered one behind another."""

from barfigures.doubles import double_of
from barfigures.figure import CLOSED, LOOSE, build_figure, is_place
from barfigures.linkage import DYAD
from barfigures.measures import are_at_one_point, distance_against, distances_compared, parts_of_turn, side_of_way
from barfigures.mirroring import mirrored
from barfigures.reading import read_linkage
from barfigures.scanning import Fault

OUT_OF_BOUNDS = -1
TOO_LONG = -2
NOT_CLOSED = -3
NO_SUCH_LINE = -4
AT_ONE_POINT = -5
AT_FAULT = -6
NO_LINKAGE = -9

MOST_BYTES = 2048
GREATEST_MODE = 3
LEAST_BITS_OF_TURN = 1
MOST_BITS_OF_TURN = 5

TAKE = 0
# How many numbers stand behind a call's own; take's are counted by the first of them.
NUMBERS_OF_CALLS = (0, 0, 1, 2, 2, 5, 6, 7, 6, 6, 0)


# What a list of calls has put there so far.
class Desk:
    def __init__(self):
        self.linkage = None


def take(desk, text):
    if len(text) > MOST_BYTES:
        return [TOO_LONG]
    try:
        linkage = read_linkage(text)
    except Fault as fault:
        return [AT_FAULT, 1, fault.spot]
    desk.linkage = linkage
    return [len(linkage.lines)]


# The form of a list in an answer.
def counted(numbers):
    return [len(numbers)] + numbers


def written(desk, numbers):
    return [len(desk.linkage.text)] + counted(desk.linkage.text)


def has_lines(linkage, numbers):
    return max(numbers) < len(linkage.lines)


def item(desk, numbers):
    if not has_lines(desk.linkage, numbers):
        return [NO_SUCH_LINE]
    line = desk.linkage.lines[numbers[0]]
    return [0] + counted([line.kind, line.first, line.second, line.rank])


def held(desk, numbers):
    if not has_lines(desk.linkage, numbers):
        return [NO_SUCH_LINE]
    return [1 if desk.linkage.are_held(numbers[0], numbers[1]) else 0]


def figures(desk, numbers):
    if not is_place(numbers[0], numbers[1]):
        return [OUT_OF_BOUNDS]
    told = []
    loose = []
    for sides in range(1 << desk.linkage.how_many(DYAD)):
        figure = build_figure(desk.linkage, numbers[0], numbers[1], sides)
        if figure.is_told():
            told.append(sides)
        if figure.state == LOOSE:
            loose.append(sides)
    return [len(told)] + counted(told) + counted(loose)


# The answer to a call of a figure: behind a, b and s the call has so many lines, and then perhaps
# another number, which fits or doesn't. tell is given the figure and what stands behind s.
def ask_figure(desk, numbers, lines, fits, tell):
    if not fits or not is_place(numbers[0], numbers[1]):
        return [OUT_OF_BOUNDS]
    if not has_lines(desk.linkage, numbers[3:3 + lines]):
        return [NO_SUCH_LINE]
    figure = build_figure(desk.linkage, numbers[0], numbers[1], numbers[2])
    if figure.state != CLOSED:
        return [NOT_CLOSED]
    return tell(figure, numbers[3:])


def point(desk, numbers):
    return ask_figure(desk, numbers, 1, numbers[4] <= GREATEST_MODE, tell_point)


def tell_point(figure, asked):
    spot = figure.spots[asked[0]]
    x = double_of(spot.x, spot.under, figure.radicands, asked[1])
    y = double_of(spot.y, spot.under, figure.radicands, asked[1])
    return [0] + counted([x, y])


def far(desk, numbers):
    return ask_figure(desk, numbers, 2, True, tell_far)


def tell_far(figure, asked):
    return [1 + distance_against(figure, asked[0], asked[1], asked[2])]


def alike(desk, numbers):
    return ask_figure(desk, numbers, 4, True, tell_alike)


def tell_alike(figure, asked):
    return [1 + distances_compared(figure, asked[0], asked[1], asked[2], asked[3])]


def side(desk, numbers):
    return ask_figure(desk, numbers, 3, True, tell_side)


def tell_side(figure, asked):
    return [1 + side_of_way(figure, asked[0], asked[1], asked[2])]


def way(desk, numbers):
    return ask_figure(desk, numbers, 2, LEAST_BITS_OF_TURN <= numbers[5] <= MOST_BITS_OF_TURN, tell_way)


def tell_way(figure, asked):
    if are_at_one_point(figure, asked[0], asked[1]):
        return [AT_ONE_POINT]
    return [0] + counted([parts_of_turn(figure, asked[0], asked[1], asked[2])])


def mirror(desk, numbers):
    desk.linkage = mirrored(desk.linkage)
    return [len(desk.linkage.lines)]


# In the order of their numbers.
CALLS = (take, written, item, held, figures, point, far, alike, side, way, mirror)


def answers(calls):
    desk = Desk()
    answered = []
    at = 0
    while at < len(calls):
        call = calls[at]
        start = at + 1
        count = NUMBERS_OF_CALLS[call]
        if call == TAKE:
            count = calls[start]
            start += 1
        answer = answer_of(desk, call, calls[start:start + count])
        answered.append(len(answer))
        answered.extend(answer)
        at = start + count
    return answered


def answer_of(desk, call, numbers):
    if call != TAKE and desk.linkage is None:
        return [NO_LINKAGE]
    return CALLS[call](desk, numbers)
