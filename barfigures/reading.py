"""A text is read into a linkage; what's at fault in it first ends the reading."""

from barfigures.linkage import CRANK, DYAD, PIN, Linkage
from barfigures.scanning import BLANK, END, LINE_FEED, SLASH, Fault, Scanner
from barfigures.surds import greatest_common_factor

MOST_LINES = 24
MOST_DYADS = 3
LEAST_DENOMINATOR = 2
GREATEST_DENOMINATOR = 20


# A linkage while it's read: names and places tell which there are already.
class Draft:
    def __init__(self, text):
        self.scanner = Scanner(text)
        self.linkage = Linkage(text)
        self.names = {}
        self.places = {}


def read_linkage(text):
    draft = Draft(list(text))
    while draft.scanner.ahead() != END:
        read_line(draft)
    if draft.linkage.how_many(CRANK) == 0:
        raise Fault(draft.scanner.spot)
    return draft.linkage


def read_line(draft):
    start = draft.scanner.spot
    kind = draft.scanner.first_word()
    if not has_room(draft.linkage, kind):
        raise Fault(start)
    name = read_new_name(draft)
    if kind == PIN:
        read_pin(draft)
    elif kind == CRANK:
        read_crank(draft)
    elif kind == DYAD:
        read_dyad(draft)
    else:
        read_rider(draft)
    draft.scanner.skip(LINE_FEED)
    # Only now: a line isn't one of those before it.
    draft.names[name] = len(draft.linkage.lines) - 1


def has_room(linkage, kind):
    if len(linkage.lines) == MOST_LINES:
        return False
    if kind == CRANK:
        return linkage.how_many(CRANK) == 0
    if kind == DYAD:
        # So no rank needs to be looked at: one above 3 takes a fourth dyad.
        return linkage.how_many(DYAD) < MOST_DYADS
    return True


def read_new_name(draft):
    start = next_word(draft.scanner)
    name = draft.scanner.name()
    if name in draft.names:
        raise Fault(start)
    return name


def read_pin(draft):
    start = next_word(draft.scanner)
    x = draft.scanner.number()
    next_word(draft.scanner)
    y = draft.scanner.number()
    if (x, y) in draft.places:
        raise Fault(start)
    draft.places[(x, y)] = True
    draft.linkage.add_pin(x, y)


def read_crank(draft):
    start = next_word(draft.scanner)
    pivot = read_old_name(draft)
    if not draft.linkage.lines[pivot].is_fixed():
        raise Fault(start)
    draft.linkage.add_crank(pivot, read_length(draft.scanner))


def read_dyad(draft):
    next_word(draft.scanner)
    first = read_old_name(draft)
    first_length = read_length(draft.scanner)
    start = next_word(draft.scanner)
    second = read_old_name(draft)
    if second == first:
        raise Fault(start)
    draft.linkage.add_dyad(first, first_length, second, read_length(draft.scanner))


def read_rider(draft):
    next_word(draft.scanner)
    first = read_old_name(draft)
    start = next_word(draft.scanner)
    second = read_old_name(draft)
    if second == first or not draft.linkage.pieces_with_ends(first, second):
        raise Fault(start)
    along = read_share(draft.scanner)
    across = read_share(draft.scanner)
    draft.linkage.add_rider(first, second, along + across)


# Where the word behind the blank begins.
def next_word(scanner):
    scanner.skip(BLANK)
    return scanner.spot


# The line that the name is of.
def read_old_name(draft):
    start = draft.scanner.spot
    name = draft.scanner.name()
    if name not in draft.names:
        raise Fault(start)
    return draft.names[name]


def read_length(scanner):
    start = next_word(scanner)
    length = scanner.number()
    # Three digits can't make it too great.
    if length < 1:
        raise Fault(start)
    return length


# u or v, as its numerator and its denominator.
def read_share(scanner):
    start = next_word(scanner)
    numerator = scanner.number()
    if scanner.ahead() != SLASH:
        return (numerator, 1)
    scanner.skip(SLASH)
    denominator = scanner.number_without_sign()
    if not LEAST_DENOMINATOR <= denominator <= GREATEST_DENOMINATOR:
        raise Fault(start)
    if greatest_common_factor(numerator, denominator) != 1:
        raise Fault(start)
    return (numerator, denominator)
