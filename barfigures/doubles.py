"""A quotient of two surds as a double: which one it's rounded to is decided exactly."""

from barfigures.surds import high_half, low_half, root_of_halves, scale, sign, subtract

NEAREST = 0
DOWN = 1
UP = 2

FIRST_PRECISION = 256
# More than a double has, so that those left over tell how to round.
BITS_OF_QUOTIENT = 64
BITS_OF_DOUBLE = 53
# The last bit of the smallest doubles stands for 2 to the minus this.
LEAST_EXPONENT = 1074
SIGN_BIT = 9223372036854775808


# A number that, times 2 to the precision, isn't below low and not above high.
class Span:
    def __init__(self, low, high):
        self.low = low
        self.high = high


# A number that, times 2 to the exponent, is whole, or if it isn't exact, above whole by less than 1.
class Quotient:
    def __init__(self, whole, exact, exponent):
        self.whole = whole
        self.exact = exact
        self.exponent = exponent


# The bits of top / under as a double; under is above 0.
def double_of(top, under, radicands, mode):
    side = sign(top, radicands)
    if side == 0:
        return 0
    quotient = divided(scale(top, side), under, radicands)
    away = mode == (UP if side > 0 else DOWN)
    bits = rounded(quotient, away, mode == NEAREST)
    return bits if side > 0 else bits + SIGN_BIT


def rounded(quotient, away, nearest):
    dropped = max(quotient.whole.bit_length() - BITS_OF_DOUBLE, quotient.exponent - LEAST_EXPONENT)
    kept = quotient.whole >> dropped
    rest = quotient.whole - (kept << dropped)
    if nearest:
        half = 1 << (dropped - 1)
        tie_goes_up = kept % 2 == 1 or not quotient.exact
        away = rest > half or (rest == half and tie_goes_up)
    elif rest == 0 and quotient.exact:
        away = False
    # The first bit of kept is added to the exponent, and so is what rounding carries into it.
    exponent_bits = (dropped - quotient.exponent + LEAST_EXPONENT) << (BITS_OF_DOUBLE - 1)
    return exponent_bits + kept + (1 if away else 0)


# top / under, both above 0, with enough bits to be rounded.
def divided(top, under, radicands):
    precision = FIRST_PRECISION
    while True:
        roots = spans_of_roots(radicands, precision)
        over = span_of(top, roots, precision)
        below = span_of(under, roots, precision)
        if over.low > 0 and below.low > 0:
            exponent = BITS_OF_QUOTIENT + below.high.bit_length() - over.low.bit_length()
            least = rounded_up(over.low << exponent, below.high)
            greatest = (over.high << exponent) // below.low
            if greatest < least:
                return Quotient(greatest, False, exponent)
            if greatest == least:
                return divided_near(top, under, radicands, least, exponent)
        precision *= 2


# The quotient, of which whole is the only whole number that it might be.
def divided_near(top, under, radicands, whole, exponent):
    beyond = sign(subtract(scale(top, 1 << exponent), scale(under, whole)), radicands)
    if beyond < 0:
        return Quotient(whole - 1, False, exponent)
    return Quotient(whole, beyond == 0, exponent)


def spans_of_roots(radicands, precision):
    roots = []
    for radicand in radicands:
        span = span_of(radicand, roots, precision)
        low = root_below(max(span.low, 0) << precision)
        high = root_below(span.high << precision) + 1
        roots.append(Span(low, high))
    return roots


def span_of(surd, roots, precision):
    if len(surd) == 1:
        return Span(surd[0] << precision, surd[0] << precision)
    low = span_of(low_half(surd), roots, precision)
    high = span_of(high_half(surd), roots, precision)
    root = roots[root_of_halves(surd)]
    least = high.low * (root.low if high.low > 0 else root.high)
    greatest = high.high * (root.high if high.high > 0 else root.low)
    return Span(low.low + (least >> precision), low.high + rounded_up(greatest, 1 << precision))


def rounded_up(number, divisor):
    return -(-number // divisor)


# The greatest whole number whose square isn't above number.
def root_below(number):
    if number == 0:
        return 0
    root = 1 << ((number.bit_length() + 1) // 2)
    while True:
        nearer = (root + number // root) // 2
        if nearer >= root:
            return root
        root = nearer
