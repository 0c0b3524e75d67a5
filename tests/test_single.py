import random
import unittest

from singlenet import single
from tests import exact
from tests.helper import singles

SIGN = 0x80000000
MOST = 0x7F7FFFFF
LEAST = 0x00000001
LEAST_FULL = 0x00800000

MAGNITUDES = (
    0, 1, 2, 3, 5, 0x00000100, 0x003FFFFF, 0x00400000, 0x007FFFFE, 0x007FFFFF, 0x00800000, 0x00800001, 0x00FFFFFF,
    0x01000000, 0x01000001, 0x0C000000, 0x0C000001, 0x1F800000, 0x20000000, 0x33800000, 0x33800001, 0x33FFFFFF,
    0x34000000, 0x34400000, 0x3EAAAAAB, 0x3F000000, 0x3F7FFFFF, 0x3F800000, 0x3F800001, 0x3F800002, 0x3F800003,
    0x3FFFFFFF, 0x40000000, 0x40400000, 0x4B7FFFFF, 0x4B800000, 0x4B800001, 0x5F7FFFFF, 0x5F800000, 0x73000000,
    0x73000001, 0x73800000, 0x7E800000, 0x7EFFFFFF, 0x7F000000, 0x7F7FFFFE, 0x7F7FFFFF)
EDGES = MAGNITUDES + tuple(bits + SIGN for bits in MAGNITUDES)


def reckoned(way, *bits):
    try:
        return way(*bits)
    except single.NotFinite:
        return None


def any_single(rng):
    choice = rng.randrange(4)
    if choice == 0:
        exponent = rng.randrange(0, 3)
    elif choice == 1:
        exponent = rng.randrange(115, 140)
    else:
        exponent = rng.randrange(0, 255)
    return (rng.getrandbits(1) << 31) | (exponent << 23) | rng.getrandbits(23)


class BothWaysTest(unittest.TestCase):

    def check(self, name, *bits):
        told = reckoned(getattr(single, name), *bits)
        wanted = getattr(exact, name)(*bits)
        if told != wanted:
            self.fail("%s %r: %r, not %r" % (name, [hex(each) for each in bits], told, wanted))

    def test_pairs_of_edges(self):
        for x in EDGES:
            for y in EDGES:
                self.check("plus", x, y)
                self.check("times", x, y)

    def test_pairs_of_edges_by_difference_and_quotient(self):
        for x in EDGES[::2]:
            for y in EDGES:
                self.check("minus", x, y)
        for x in EDGES:
            for y in EDGES[::2]:
                self.check("over", x, y)

    def test_roots_of_edges(self):
        for x in EDGES:
            self.check("root", x)

    def test_many(self):
        rng = random.Random(1)
        for name in ("plus", "minus", "times", "over"):
            for each in range(1500):
                self.check(name, any_single(rng), any_single(rng))
        for each in range(1500):
            self.check("root", any_single(rng) % SIGN)

    def test_sums_of_near_ones(self):
        rng = random.Random(2)
        for each in range(1500):
            x = any_single(rng)
            exponent = min(254, max(0, ((x >> 23) & 255) + rng.randrange(-26, 27)))
            self.check("plus", x, (rng.getrandbits(1) << 31) | (exponent << 23) | rng.getrandbits(23))

    def test_products_and_quotients_near_zero(self):
        rng = random.Random(3)
        for each in range(1500):
            first = rng.randrange(1, 150)
            second = min(254, max(0, 127 - first + rng.randrange(-26, 3)))
            x = (rng.getrandbits(1) << 31) | (first << 23) | rng.getrandbits(23)
            self.check("times", x, (second << 23) | rng.getrandbits(23))
            y = (min(254, max(1, first + 127 + rng.randrange(-3, 26))) << 23) | rng.getrandbits(23)
            self.check("over", x, y)


class SumTest(unittest.TestCase):

    def test_ordinary(self):
        for x, y, total in ((1, 2, 3), (1.5, -0.25, 1.25), (-1, -1, -2), (0.5, -2, -1.5), (16777215, 1, 16777216)):
            bits = singles(x, y, total)
            self.assertEqual(single.plus(bits[0], bits[1]), bits[2])
            self.assertEqual(single.minus(bits[2], bits[1]), bits[0])

    def test_of_two_as_near_the_even_one(self):
        for x, y, total in ((16777216, 1, 16777216), (16777218, 1, 16777220), (16777216, 3, 16777220),
                            (16777222, -1, 16777220), (16777218, -3, 16777215), (33554432, -1, 33554432),
                            (33554436, 2, 33554440)):
            for sign in (1, -1):
                bits = singles(sign * x, sign * y, sign * total)
                self.assertEqual(single.plus(bits[0], bits[1]), bits[2])
                self.assertEqual(single.plus(bits[1], bits[0]), bits[2])

    def test_just_beside_half_way(self):
        half_way = singles(2.0 ** -24)[0]
        one = singles(1)[0]
        self.assertEqual(single.plus(one, half_way), one)
        self.assertEqual(single.plus(one, half_way + 1), one + 1)
        self.assertEqual(single.plus(one + 1, half_way - 1), one + 1)
        self.assertEqual(single.plus(one + 1, half_way), one + 2)

    def test_near_zero_with_fewer_bits(self):
        self.assertEqual(single.plus(LEAST, LEAST), 2)
        self.assertEqual(single.plus(0x007FFFFF, LEAST), LEAST_FULL)
        self.assertEqual(single.minus(LEAST_FULL, LEAST), 0x007FFFFF)
        self.assertEqual(single.plus(0x00400000, 0x00400000), LEAST_FULL)
        self.assertEqual(single.minus(LEAST, 2), SIGN + LEAST)

    def test_zeros(self):
        self.assertEqual(single.plus(0, 0), 0)
        self.assertEqual(single.plus(0, SIGN), 0)
        self.assertEqual(single.plus(SIGN, 0), 0)
        self.assertEqual(single.plus(SIGN, SIGN), SIGN)
        self.assertEqual(single.minus(0, 0), 0)
        self.assertEqual(single.minus(0, SIGN), 0)
        self.assertEqual(single.minus(SIGN, 0), SIGN)
        self.assertEqual(single.minus(SIGN, SIGN), 0)

    def test_opposite_ones(self):
        for bits in MAGNITUDES:
            self.assertEqual(single.plus(bits, bits + SIGN), 0)
            self.assertEqual(single.plus(bits + SIGN, bits), 0)
            self.assertEqual(single.minus(bits, bits), 0)
            self.assertEqual(single.opposite(bits), bits + SIGN)
            self.assertEqual(single.opposite(bits + SIGN), bits)

    def test_the_greatest_ones(self):
        quarter_step = singles(2.0 ** 102)[0]
        half_step = singles(2.0 ** 103)[0]
        self.assertEqual(single.plus(MOST, quarter_step), MOST)
        self.assertEqual(single.plus(MOST, half_step - 1), MOST)
        self.assertEqual(single.plus(MOST - 1, half_step), MOST - 1)
        for x, y in ((MOST, MOST), (MOST, half_step), (MOST, half_step + 1), (0x7F000000, 0x7F000000)):
            for sign in (0, SIGN):
                self.assertRaises(single.NotFinite, single.plus, x + sign, y + sign)
                self.assertRaises(single.NotFinite, single.minus, x + sign, single.opposite(y + sign))


class ProductTest(unittest.TestCase):

    def test_ordinary(self):
        for x, y, product in ((2, 3, 6), (-1.5, 2, -3), (-0.5, -0.5, 0.25), (4097, 4095, 16777215)):
            bits = singles(x, y, product)
            self.assertEqual(single.times(bits[0], bits[1]), bits[2])

    def test_of_two_as_near_the_even_one(self):
        # 4097 * 4097 is 16785409, half way between 16785408 and 16785410; 4099 * 4097 is 16793603.
        for x, y, product in ((4097, 4097, 16785408), (4099, 4097, 16793604), (-4097, 4097, -16785408)):
            bits = singles(x, y, product)
            self.assertEqual(single.times(bits[0], bits[1]), bits[2])

    def test_near_zero(self):
        half = singles(0.5)[0]
        for x, product in ((1, 0), (2, 1), (3, 2), (4, 2), (5, 2), (6, 3), (7, 4), (0x00800000, 0x00400000),
                           (0x00FFFFFF, 0x00800000), (0x00FFFFFD, 0x007FFFFE)):
            for sign in (0, SIGN):
                self.assertEqual(single.times(x + sign, half), product + sign)
                self.assertEqual(single.times(half + SIGN, x + sign), product + (SIGN - sign))
        self.assertEqual(single.times(1, half + 1), 1)
        self.assertEqual(single.times(1, 1), 0)
        self.assertEqual(single.times(SIGN + LEAST_FULL, LEAST_FULL), SIGN)

    def test_zeros(self):
        for x in MAGNITUDES:
            self.assertEqual(single.times(x, 0), 0)
            self.assertEqual(single.times(x, SIGN), SIGN)
            self.assertEqual(single.times(SIGN, x + SIGN), 0)
            self.assertEqual(single.times(0, x + SIGN), SIGN)

    def test_the_greatest_ones(self):
        one = 0x3F800000
        self.assertEqual(single.times(MOST, one), MOST)
        self.assertEqual(single.times(0x7F000000, 0x3FFFFFFF), MOST)
        self.assertRaises(single.NotFinite, single.times, MOST, one + 1)
        self.assertRaises(single.NotFinite, single.times, 0x5F800000, 0x5F800000)
        self.assertRaises(single.NotFinite, single.times, MOST + SIGN, MOST)


class QuotientTest(unittest.TestCase):

    def test_ordinary(self):
        for x, y, quotient in ((6, 3, 2), (-1, 4, -0.25), (-9, -2, 4.5), (0.75, 0.5, 1.5)):
            bits = singles(x, y, quotient)
            self.assertEqual(single.over(bits[0], bits[1]), bits[2])
        self.assertEqual(single.over(0x3F800000, 0x40400000), 0x3EAAAAAB)
        self.assertEqual(single.over(0x40000000, 0x40400000), 0x3F2AAAAB)

    def test_near_zero(self):
        two = singles(2)[0]
        for x, quotient in ((1, 0), (2, 1), (3, 2), (5, 2), (7, 4), (0x00FFFFFF, 0x00800000), (0x00FFFFFD, 0x007FFFFE)):
            self.assertEqual(single.over(x, two), quotient)
            self.assertEqual(single.over(x + SIGN, two), quotient + SIGN)
        self.assertEqual(single.over(LEAST, MOST + SIGN), SIGN)
        # Just above half way: the rest that is left decides.
        self.assertEqual(single.over(3, singles(6)[0] - 1), 1)
        self.assertEqual(single.over(3, singles(6)[0]), 0)

    def test_zeros(self):
        self.assertEqual(single.over(0, 0x3F800000), 0)
        self.assertEqual(single.over(0, 0xBF800000), SIGN)
        self.assertEqual(single.over(SIGN, 0x3F800000), SIGN)
        self.assertEqual(single.over(SIGN, 0xBF800000), 0)

    def test_by_zero(self):
        for x in EDGES:
            self.assertRaises(single.NotFinite, single.over, x, 0)
            self.assertRaises(single.NotFinite, single.over, x, SIGN)

    def test_beyond_the_greatest(self):
        self.assertEqual(single.over(MOST, 0x3F800000), MOST)
        self.assertRaises(single.NotFinite, single.over, MOST, 0x3F7FFFFF)
        self.assertRaises(single.NotFinite, single.over, 0x3F800000, SIGN + LEAST)
        self.assertRaises(single.NotFinite, single.over, MOST, LEAST)


class RootTest(unittest.TestCase):

    def test_ordinary(self):
        for x, y in ((4, 2), (9, 3), (2.25, 1.5), (1, 1), (16777216, 4096), (0.0625, 0.25)):
            bits = singles(x, y)
            self.assertEqual(single.root(bits[0]), bits[1])
        self.assertEqual(single.root(0x40000000), 0x3FB504F3)
        self.assertEqual(single.root(0x40400000), 0x3FDDB3D7)

    def test_near_zero_and_the_greatest(self):
        self.assertEqual(single.root(LEAST), 0x1A3504F3)
        self.assertEqual(single.root(2), singles(2.0 ** -74)[0])
        self.assertEqual(single.root(LEAST_FULL), singles(2.0 ** -63)[0])
        self.assertEqual(single.root(MOST), 0x5F7FFFFF)

    def test_zeros(self):
        self.assertEqual(single.root(0), 0)
        self.assertEqual(single.root(SIGN), SIGN)

    def test_below_zero(self):
        for x in MAGNITUDES[1:]:
            self.assertRaises(single.NotFinite, single.root, x + SIGN)

    def test_whole_roots(self):
        most = (2 ** 27 - 1) ** 2
        for square in list(range(1, 3000)) + [most - 1, most, most + 1, 2 ** 54 - 1, 2 ** 54, 2 ** 55 - 1]:
            whole = single.whole_root(square)
            self.assertTrue(whole * whole <= square < (whole + 1) * (whole + 1), square)


if __name__ == "__main__":
    unittest.main()
