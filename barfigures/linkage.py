"""What a linkage is: its lines, and the pieces that its points are of."""

PIN = 0
CRANK = 1
DYAD = 2
RIDER = 3

GROUND = 0


# One line, and the point it makes; first and second are the lines of P and Q.
# numbers are those of the text: of a pin x, y; of the crank r; of a dyad p, q;
# of a rider u's numerator and denominator, then v's.
class Line:
    def __init__(self, kind, first, second, rank, numbers):
        self.kind = kind
        self.first = first
        self.second = second
        self.rank = rank
        self.numbers = numbers
        self.end_of = []
        self.rides_on = []

    def pieces(self):
        return self.end_of + self.rides_on

    def is_fixed(self):
        return GROUND in self.pieces()


# The lines in their order, and the text that they were read from.
class Linkage:
    def __init__(self, text):
        self.text = list(text)
        self.lines = []

    def how_many(self, kind):
        return len([line for line in self.lines if line.kind == kind])

    def add_pin(self, x, y):
        here = len(self.lines)
        pin = Line(PIN, here, here, 0, (x, y))
        pin.end_of.append(GROUND)
        self.lines.append(pin)

    def add_crank(self, pivot, radius):
        here = len(self.lines)
        self.lines.append(Line(CRANK, pivot, here, 0, (radius,)))
        self.join_ends(first_bar(here), pivot, here)

    def add_dyad(self, first, first_length, second, second_length):
        here = len(self.lines)
        rank = 1 + self.greater_rank(first, second)
        self.lines.append(Line(DYAD, first, second, rank, (first_length, second_length)))
        self.join_ends(first_bar(here), first, here)
        self.join_ends(second_bar(here), second, here)

    def add_rider(self, first, second, shares):
        rider = Line(RIDER, first, second, self.greater_rank(first, second), shares)
        rider.rides_on.extend(self.pieces_with_ends(first, second))
        self.lines.append(rider)

    def greater_rank(self, first, second):
        return max(self.lines[first].rank, self.lines[second].rank)

    def join_ends(self, piece, first, second):
        self.lines[first].end_of.append(piece)
        self.lines[second].end_of.append(piece)

    # The pieces of which both are ends: one, or none.
    def pieces_with_ends(self, first, second):
        return in_both(self.lines[first].end_of, self.lines[second].end_of)

    def are_held(self, first, second):
        return len(in_both(self.lines[first].pieces(), self.lines[second].pieces())) > 0


def in_both(pieces, others):
    return [piece for piece in pieces if piece in others]


# A piece needs a number of its own: the ground has 0, and each line two that its bars may have.
def first_bar(line):
    return 2 * line + 1


def second_bar(line):
    return 2 * line + 2
