"""The desk: calls on one linkage are read from a list, and answered one behind another."""

from barfigures.doubles import double_of
from barfigures.figure import CLOSED, LOOSE, build_figure, is_place
from barfigures.linkage import DYAD
from barfigures.reading import read_linkage
from barfigures.scanning import Fault

NOT_A_PLACE = -1
TOO_LONG = -2
NOT_CLOSED = -3
NO_SUCH_LINE = -4
AT_FAULT = -6
NO_LINKAGE = -9

MOST_BYTES = 2048
GREATEST_MODE = 3

TAKE = 0
# How many numbers stand behind a call's own; take's are counted by the first of them.
NUMBERS_OF_CALLS = (0, 0, 1, 2, 2, 5)


# What a list of calls has put there so far.
class Desk:
    def __init__(self):
        self.linkage = None


def take(desk, text):
    if len(text) > MOST_BYTES:
        return [TOO_LONG]
    try:
        linkage = read_linkage(text)
    except Fault as fault:
        return [AT_FAULT, 1, fault.spot]
    desk.linkage = linkage
    return [len(linkage.lines)]


# The form of a list in an answer.
def counted(numbers):
    return [len(numbers)] + numbers


def written(desk, numbers):
    return [len(desk.linkage.text)] + counted(desk.linkage.text)


def has_lines(linkage, numbers):
    return max(numbers) < len(linkage.lines)


def item(desk, numbers):
    if not has_lines(desk.linkage, numbers):
        return [NO_SUCH_LINE]
    line = desk.linkage.lines[numbers[0]]
    return [0] + counted([line.kind, line.first, line.second, line.rank])


def held(desk, numbers):
    if not has_lines(desk.linkage, numbers):
        return [NO_SUCH_LINE]
    return [1 if desk.linkage.are_held(numbers[0], numbers[1]) else 0]


def figures(desk, numbers):
    if not is_place(numbers[0], numbers[1]):
        return [NOT_A_PLACE]
    told = []
    loose = []
    for sides in range(1 << desk.linkage.how_many(DYAD)):
        figure = build_figure(desk.linkage, numbers[0], numbers[1], sides)
        if figure.is_told():
            told.append(sides)
        if figure.state == LOOSE:
            loose.append(sides)
    return [len(told)] + counted(told) + counted(loose)


def point(desk, numbers):
    mode = numbers[4]
    if not is_place(numbers[0], numbers[1]) or mode > GREATEST_MODE:
        return [NOT_A_PLACE]
    if not has_lines(desk.linkage, [numbers[3]]):
        return [NO_SUCH_LINE]
    figure = build_figure(desk.linkage, numbers[0], numbers[1], numbers[2])
    if figure.state != CLOSED:
        return [NOT_CLOSED]
    spot = figure.spots[numbers[3]]
    x = double_of(spot.x, spot.under, figure.radicands, mode)
    y = double_of(spot.y, spot.under, figure.radicands, mode)
    return [0] + counted([x, y])


# In the order of their numbers.
CALLS = (take, written, item, held, figures, point)


def answers(calls):
    desk = Desk()
    answered = []
    at = 0
    while at < len(calls):
        call = calls[at]
        start = at + 1
        count = NUMBERS_OF_CALLS[call]
        if call == TAKE:
            count = calls[start]
            start += 1
        answer = answer_of(desk, call, calls[start:start + count])
        answered.append(len(answer))
        answered.extend(answer)
        at = start + count
    return answered


def answer_of(desk, call, numbers):
    if call != TAKE and desk.linkage is None:
        return [NO_LINKAGE]
    return CALLS[call](desk, numbers)
