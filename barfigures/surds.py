"""Exact numbers: whole ones, and such with roots of such in them.

A surd is a list of 1, 2, 4 or 8 whole numbers. One alone is itself. Of a longer list the first
half is a surd, and the second half is one that's taken times the root of radicands[k], where a
half is 2 to the k long; radicands[k] is a surd itself, not longer than a half, and above 0.

A root may well be whole, or a surd without a root of its own. So one number may have several
lists, and only sign tells whether two are the same. There is no division, as it can't be done
half by half then; whoever needs one keeps what is below the stroke.
"""


def greatest_common_factor(number, other):
    while other != 0:
        rest = number % other
        number = other
        other = rest
    return abs(number)


# The surds without the factor that all their numbers have in common; one number at least isn't 0.
def without_common_factor(surds):
    factor = 0
    for surd in surds:
        for number in surd:
            factor = greatest_common_factor(factor, number)
            if factor == 1:
                return surds
    return [without_factor(surd, factor) for surd in surds]


def without_factor(surd, factor):
    return [number // factor for number in surd]


def lengthened(surd, length):
    return surd + [0] * (length - len(surd))


def add(surd, other):
    length = max(len(surd), len(other))
    return [x + y for x, y in zip(lengthened(surd, length), lengthened(other, length), strict=True)]


def subtract(surd, other):
    return add(surd, scale(other, -1))


def scale(surd, factor):
    return [x * factor for x in surd]


def low_half(surd):
    return surd[:len(surd) // 2]


def high_half(surd):
    return surd[len(surd) // 2:]


# Which radicand's root the second half is taken times.
def root_of_halves(surd):
    return len(low_half(surd)).bit_length() - 1


# The surd, which is no longer than 2 to the k, times the root of radicands[k].
def times_root(surd, k):
    half = 1 << k
    return [0] * half + lengthened(surd, half)


def multiply(surd, other, radicands):
    if len(surd) < len(other):
        return multiply(other, surd, radicands)
    if len(other) == 1:
        return scale(surd, other[0])
    low = low_half(surd)
    high = high_half(surd)
    if len(other) < len(surd):
        return multiply(low, other, radicands) + multiply(high, other, radicands)
    other_low = low_half(other)
    other_high = high_half(other)
    radicand = radicands[root_of_halves(surd)]
    rootless = multiply(multiply(high, other_high, radicands), radicand, radicands)
    crossed = add(multiply(low, other_high, radicands), multiply(high, other_low, radicands))
    return add(multiply(low, other_low, radicands), rootless) + crossed


def square(surd, radicands):
    return multiply(surd, surd, radicands)


# 1 if the surd is above 0, 0 if it's 0, -1 if it's below.
def sign(surd, radicands):
    if len(surd) == 1:
        return sign_of_whole(surd[0])
    low = sign(low_half(surd), radicands)
    high = sign(high_half(surd), radicands)
    if high == 0 or high == low:
        return low
    if low == 0:
        return high
    # The halves pull against one another, and their squares tell which one is the stronger.
    pull = square(low_half(surd), radicands)
    against = multiply(square(high_half(surd), radicands), radicands[root_of_halves(surd)], radicands)
    return low * sign(subtract(pull, against), radicands)


def sign_of_whole(number):
    if number == 0:
        return 0
    return 1 if number > 0 else -1
