"""Products added up from a number on, each added to what there is, one after another."""

from singlenet.single import FINE_BITS, KEPT_BITS, MINUS_ZERO, plus, times, to_single, to_units

# No sum has as many as 65536 products: of own numbers there are no more, of numbers given or made even fewer. So
# whatever the start and the products are less than, a sum is less than 2 to the power of 17 times that, with all that
# rounding may add. The greatest single has 426 bits in fine units.
SUM_BITS = 17
MOST_FINE_BITS = 426


# All that goes into the sums of a layer, in one of two forms. Fine units are far quicker to reckon with than
# singles, but have no -0 and no end: they are taken where neither can come up.
class Sums:

    def __init__(self, starts, left, right):
        self.starts = [to_units(single) << FINE_BITS for single in starts]
        self.left = [to_units(single) for single in left]
        self.right = [to_units(single) for single in right]
        self.are_fine = MINUS_ZERO not in starts and self.stay_finite()
        if not self.are_fine:
            self.starts = starts
            self.left = left
            self.right = right

    def stay_finite(self):
        product_bits = most_bits(self.left) + most_bits(self.right)
        return max(product_bits, FINE_BITS, most_bits(self.starts)) + SUM_BITS < MOST_FINE_BITS

    def add_up(self, start, left, right):
        if self.are_fine:
            return add_up_fine(start, left, right)
        return add_up_singles(start, left, right)

    def in_singles(self, totals):
        if self.are_fine:
            return [to_single(total) for total in totals]
        return totals


def most_bits(counts):
    return max([count.bit_length() for count in counts], default=0)


def add_up_singles(start, left, right):
    total = start
    for x, y in zip(left, right):
        total = plus(total, times(x, y))
    return total


# There is no start of -0 here, so a product of 0, whatever its sign, changes nothing. All is rounded as it is for a
# single, but stays in fine units; it is written out twice because calls would take longer than what they do.
def add_up_fine(start, left, right):
    total = start
    for x, y in zip(left, right):
        product = x * y
        if product != 0:
            dropped = product.bit_length() - KEPT_BITS
            if dropped < FINE_BITS:
                dropped = FINE_BITS
            halves = product >> (dropped - 1)
            if halves & 1 and (halves & 2 or halves << (dropped - 1) != product):
                halves += 1
            total += (halves >> 1) << dropped
            dropped = total.bit_length() - KEPT_BITS
            # A sum of fewer bits needs no rounding: it is a whole number of units, as what it is made of.
            if dropped > FINE_BITS:
                halves = total >> (dropped - 1)
                if halves & 1 and (halves & 2 or halves << (dropped - 1) != total):
                    halves += 1
                total = (halves >> 1) << dropped
    return total


# One start for each row of left; a row is as long as right.
def row_sums(starts, left, right):
    sums = Sums(starts, left, right)
    length = len(right)
    totals = []
    for row, start in enumerate(sums.starts):
        totals.append(sums.add_up(start, sums.left[row * length:(row + 1) * length], sums.right))
    return sums.in_singles(totals)


# One start for each column of left; a column is as long as right.
def column_sums(starts, left, right):
    sums = Sums(starts, left, right)
    width = len(starts)
    totals = []
    for column, start in enumerate(sums.starts):
        totals.append(sums.add_up(start, sums.left[column::width], sums.right))
    return sums.in_singles(totals)
