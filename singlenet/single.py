"""Singles: IEEE 754's numbers of 32 bits, each told by its bits."""

PLUS_ZERO = 0
EXPONENT = 0x7F800000


# Infinities and what is no number are just those with every bit of the exponent set.
def is_finite(single):
    return (single & EXPONENT) != EXPONENT
