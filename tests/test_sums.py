import random
import unittest

from singlenet.single import NotFinite
from singlenet.sums import Sums, column_sums, row_sums
from tests import exact
from tests.helper import singles

SIGN = 0x80000000
MOST = 0x7F7FFFFF


def one_by_one(start, left, right):
    total = start
    for x, y in zip(left, right):
        product = exact.times(x, y)
        total = None if product is None else exact.plus(total, product)
        if total is None:
            return None
    return total


def added_up(start, left, right):
    try:
        return row_sums([start], left, right)[0]
    except NotFinite:
        return None


def some_single(rng, low, high):
    return (rng.getrandbits(1) << 31) | (rng.randrange(low, high) << 23) | rng.getrandbits(23)


class AddedUpTest(unittest.TestCase):

    def check(self, start, left, right):
        self.assertEqual(added_up(start, left, right), one_by_one(start, left, right), (start, left, right))

    def test_many(self):
        rng = random.Random(4)
        for low, high in ((120, 130), (0, 5), (40, 80), (100, 150), (0, 200), (180, 195), (0, 255)):
            for each in range(40):
                count = rng.randrange(0, 12)
                left = [some_single(rng, low, high) for each in range(count)]
                right = [some_single(rng, low, high) for each in range(count)]
                self.check(rng.choice([0, SIGN, some_single(rng, low, high)]), left, right)

    def test_zeros_of_every_sign(self):
        rng = random.Random(5)
        choices = (0, SIGN, SIGN, 1, SIGN + 1, 0x3F800000, 0xBF800000)
        for each in range(600):
            count = rng.randrange(0, 4)
            left = [rng.choice(choices) for each in range(count)]
            right = [rng.choice(choices) for each in range(count)]
            self.check(rng.choice([0, SIGN, SIGN, 0x3F800000]), left, right)

    def test_minus_zero_is_kept_by_products_of_minus_zero_alone(self):
        one, minus_one = singles(1, -1)
        for left, right, total in (([], [], SIGN), ([0], [minus_one], SIGN), ([SIGN, 0], [one, minus_one], SIGN),
                                   ([1], [SIGN + 1], SIGN), ([SIGN, 0], [one, one], 0), ([0, SIGN], [one, one], 0),
                                   ([one, minus_one], [one, one], 0)):
            self.assertEqual(added_up(SIGN, left, right), total)
            self.assertEqual(added_up(0, left, right), 0)

    def test_one_after_another(self):
        far, one = singles(16777216, 1)
        self.assertEqual(added_up(far, [one, one], [one, one]), far)
        self.assertEqual(added_up(one, [one, far], [one, one]), far + 1)
        self.assertEqual(added_up(0, [far, one, one], [one, one, one]), far)
        self.assertEqual(added_up(0, [one, one, far], [one, one, one]), far + 1)

    # 4097 * 4097 is 16785409: rounded to 16785408 ahead of the sum, it leaves nothing.
    def test_product_and_sum_are_rounded_each(self):
        start, factor = singles(-16785408, 4097)
        self.assertEqual(added_up(start, [factor], [factor]), 0)

    def test_beyond_the_greatest_on_the_way_only(self):
        one, two, minus_one, far = singles(1, 2, -1, 2.0 ** 127)
        self.assertIsNone(added_up(0, [far, far], [two, minus_one]))
        self.assertIsNone(added_up(far, [far, far], [one, minus_one]))
        self.assertIsNone(added_up(far, [far, far], [minus_one, two]))
        self.assertEqual(added_up(far, [far, far], [minus_one, one]), far)

    # One far number among near ones is enough, in left, in right or as the start of another row.
    def test_beyond_the_greatest_on_the_way_among_near_ones(self):
        one, minus_one, far = singles(1, -1, 2.0 ** 127)
        for near in (0, 1, one):
            self.assertIsNone(added_up(0, [near, far, far, far], [near, one, one, minus_one]))
            self.assertIsNone(added_up(0, [near, one, one, minus_one], [near, far, far, far]))
            self.assertIsNone(added_up(far, [near, far, far], [near, one, minus_one]))
            self.assertRaises(NotFinite, row_sums, [near, far], [near, near, far, far + SIGN], [one, one])
            self.assertRaises(NotFinite, column_sums, [far, near], [far, near, far + SIGN, near], [one, one])

    def test_just_about_where_the_greatest_is(self):
        one = singles(1)[0]
        for exponent in range(100, 128):
            each = singles(2.0 ** exponent)[0]
            most = 2 ** (128 - exponent)
            for count in (most - 1, most):
                if count <= 4096:
                    told = added_up(0, [each] * count, [one] * count)
                    self.assertEqual(told is None, count == most, (exponent, count))
                    told = added_up(each + SIGN, [each + SIGN] * (count - 1), [one] * (count - 1))
                    self.assertEqual(told is None, count == most, (exponent, count))

    def test_the_quick_form_is_taken_where_it_may_be(self):
        self.assertTrue(Sums([0], singles(1, 2), singles(-3, 4)).are_fine)
        self.assertTrue(Sums([0], [SIGN, 0], [SIGN, SIGN]).are_fine)
        self.assertFalse(Sums([0, SIGN], singles(1, 2), singles(-3, 4)).are_fine)
        self.assertFalse(Sums([0], [MOST], singles(1)).are_fine)
        self.assertFalse(Sums([MOST], singles(0), singles(1)).are_fine)


class RowsTest(unittest.TestCase):

    def test_rows_and_columns(self):
        left = singles(1, 2, 3, 4, 5, 6)
        self.assertEqual(row_sums(singles(10, 20), left, singles(1, 10, 100)), singles(331, 674))
        self.assertEqual(column_sums(singles(10, 20, 30), left, singles(1, 10)), singles(51, 72, 93))


if __name__ == "__main__":
    unittest.main()
