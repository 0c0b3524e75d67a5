"""A second way of reckoning with singles: exact numbers, and the nearest single looked for among all of them."""

SIGN = 0x80000000
BEYOND = 0x7F800000
SCALE = 2 ** 149


# Times 2 ** 149, so that it is a whole number. Bits that would be an infinity stand for 2 ** 128 here, the place where
# the next single would be.
def value(bits):
    exponent = (bits >> 23) & 255
    fraction = bits & 0x7FFFFF
    magnitude = fraction if exponent == 0 else (2 ** 23 + fraction) * 2 ** (exponent - 1)
    return -magnitude if bits & SIGN else magnitude


# The greatest bits whose value isn't above what's looked for: from 0 on, bits stand in their values' order.
def last_below(is_below):
    low = 0
    high = BEYOND
    while high - low > 1:
        middle = (low + high) // 2
        if is_below(value(middle)):
            low = middle
        else:
            high = middle
    return low


# The single that is nearest to one number divided by another; None: no finite one.
def nearest(number, divisor, is_minus):
    low = last_below(lambda x: x * divisor <= number)
    below = number - value(low) * divisor
    above = value(low + 1) * divisor - number
    if above < below or (above == below and low % 2 == 1):
        low += 1
    if low >= BEYOND:
        return None
    return low | SIGN if is_minus else low


def plus(x, y):
    total = value(x) + value(y)
    if total == 0:
        return SIGN if x == SIGN and y == SIGN else 0
    return nearest(abs(total), 1, total < 0)


def minus(x, y):
    return plus(x, y + SIGN if y < SIGN else y - SIGN)


def signs_differ(x, y):
    return (x >= SIGN) != (y >= SIGN)


def times(x, y):
    return nearest(abs(value(x) * value(y)), SCALE, signs_differ(x, y))


def over(x, y):
    if value(y) == 0:
        return None
    return nearest(abs(value(x)) * SCALE, abs(value(y)), signs_differ(x, y))


def root(x):
    if value(x) == 0:
        return x
    if x >= SIGN:
        return None
    square = value(x) * SCALE
    low = last_below(lambda y: y * y <= square)
    # Twice the number half way, and so four times its square.
    half_way = (value(low) + value(low + 1)) ** 2
    if half_way == 4 * square:
        return low + low % 2
    return low if half_way > 4 * square else low + 1
