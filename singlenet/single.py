"""Singles: IEEE 754's numbers of 32 bits, each told by its bits, and how they are reckoned with.

What is exact on the way is a whole number of units or of fine units. A unit is the least single above 0,
2 to the power of -149, so each finite single is a whole number of units. A fine unit is a unit times a unit,
so each product of two singles is a whole number of fine units.
"""

PLUS_ZERO = 0
MINUS_ZERO = 0x80000000
ONE = 0x3F800000

EXPONENT = 0x7F800000
FRACTION = 0x007FFFFF
LEADING = 0x00800000
FRACTION_BITS = 23

KEPT_BITS = 24
FINE_BITS = 149
ROOT_BITS = 54


class NotFinite(ValueError):
    pass


# Infinities and what is no number are just those with every bit of the exponent set.
def is_finite(single):
    return (single & EXPONENT) != EXPONENT


def is_above_zero(single):
    return PLUS_ZERO < single < MINUS_ZERO


def opposite(single):
    return single ^ MINUS_ZERO


# Both zeros are 0 units: whoever needs the sign of a zero has to look at its bits.
def to_units(single):
    count = single & FRACTION
    exponent = (single & EXPONENT) >> FRACTION_BITS
    if exponent > 0:
        count = (count | LEADING) << (exponent - 1)
    return -count if single >= MINUS_ZERO else count


# The nearest single, of two as near the even one, of a number that is not below 0.
def nearest(fine):
    dropped = fine.bit_length() - KEPT_BITS
    # Near 0 there are fewer bits to keep: nothing below a unit is.
    if dropped < FINE_BITS:
        dropped = FINE_BITS
    halves = fine >> (dropped - 1)
    # An odd count of halves goes up, unless it is exact and what is kept below it is even.
    if halves & 1 and (halves & 2 or halves << (dropped - 1) != fine):
        halves += 1
    # The leading bit isn't cut off but added: it makes the exponent one more, and is missing just where that stays 0.
    # One that rounding has carried further makes the exponent one more again.
    single = ((dropped - FINE_BITS) << FRACTION_BITS) + (halves >> 1)
    if single >= EXPONENT:
        raise NotFinite("a result beyond the greatest single")
    return single


def to_single(fine):
    return nearest(-fine) | MINUS_ZERO if fine < 0 else nearest(fine)


def plus(x, y):
    exact = to_units(x) + to_units(y)
    if exact == 0:
        # Of all the sums that are 0, only that of two -0 is -0.
        return x & y & MINUS_ZERO
    return to_single(exact << FINE_BITS)


def minus(x, y):
    return plus(x, opposite(y))


def times(x, y):
    return nearest(abs(to_units(x) * to_units(y))) | ((x ^ y) & MINUS_ZERO)


def over(x, y):
    divisor = abs(to_units(y))
    if divisor == 0:
        raise NotFinite("a quotient by 0")
    dividend = abs(to_units(x)) << (FINE_BITS + FINE_BITS)
    quotient = dividend // divisor
    return nearest(with_rest(quotient, quotient * divisor != dividend)) | ((x ^ y) & MINUS_ZERO)


# A rest is less than a fine unit. The last bit, which is always dropped, says that there is one:
# then the exact number isn't just half way between two.
def with_rest(fine, is_left):
    return fine | 1 if is_left else fine


def root(x):
    if x == PLUS_ZERO or x == MINUS_ZERO:
        return x
    if not is_above_zero(x):
        raise NotFinite("a root of what is below 0")
    # The square of the root's fine units. Behind its first bits there are none but 0, which can be left out.
    square = to_units(x) << (FINE_BITS + FINE_BITS + FINE_BITS)
    left_out = (square.bit_length() - ROOT_BITS) // 2
    short = square >> (left_out + left_out)
    whole = whole_root(short)
    return nearest(with_rest(whole << left_out, whole * whole != short))


def whole_root(square):
    guess = 1 << ((square.bit_length() + 1) // 2)
    better = (guess + square // guess) // 2
    # From above, each guess is less than the one before until the whole root is reached.
    while better < guess:
        guess = better
        better = (guess + square // guess) // 2
    return guess
