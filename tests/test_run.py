import unittest

from tests.helper import ask, begin, get_own, run, set_own, single, singles, train

SIGN = 0x80000000
MOST = 0x7F7FFFFF
NOT_FINITE = (0x7F800000, 0xFF800000, 0x7F800001, 0xFF800001, 0x7FC00000, 0xFFC00000, 0x7FFFFFFF, 0xFFFFFFFF)
FAR = 16777216
# From FAR on, one by one, ones are lost; two of them taken together are not.
LOST = single(FAR)
FOUND = single(FAR + 2)


def outcome(text, numbers, m, *own):
    calls = [begin(text)] + [set_own(layer, bits) for layer, bits in own] + [run(m, numbers)]
    told = ask(*calls)
    if told[:-1] != [[0]] * (len(calls) - 1):
        raise AssertionError(told)
    return told[-1]


class NoLayerTest(unittest.TestCase):

    def test_what_is_given_comes_out(self):
        numbers = singles(1, -2, 0.5) + [0, SIGN, 1, SIGN + 1, MOST, SIGN + MOST]
        self.assertEqual(outcome("input 9 1 1", numbers, 9), [0] + numbers)
        self.assertEqual(outcome("input 1 3 3\n", numbers, 9), [0] + numbers)


class DenseTest(unittest.TestCase):

    def test_weights_by_made_then_further_ones(self):
        told = outcome("input 2 1 1\ndense 2", singles(10, 100), 2, (0, singles(1, 2, 3, 4, 5, 6)))
        self.assertEqual(told, [0] + singles(215, 436))

    def test_over_planes_rows_and_columns(self):
        told = outcome("input 2 1 2\ndense 1", singles(1, 10, 100, 1000), 1, (0, singles(1, 2, 3, 4, 0.5)))
        self.assertEqual(told, [0] + singles(4321.5))

    def test_all_zero_after_begin(self):
        self.assertEqual(outcome("input 2 1 1\ndense 3", singles(1, -1), 3), [0, 0, 0, 0])

    def test_in_order(self):
        ones = singles(1, 1, 1, 0)
        self.assertEqual(outcome("input 3 1 1\ndense 1", singles(FAR, 1, 1), 1, (0, ones)), [0, LOST])
        self.assertEqual(outcome("input 3 1 1\ndense 1", singles(1, 1, FAR), 1, (0, ones)), [0, FOUND])

    def test_from_the_further_number_on(self):
        own = singles(1, 1, FAR)
        self.assertEqual(outcome("input 2 1 1\ndense 1", singles(1, 1), 1, (0, own)), [0, LOST])
        own = singles(1, FAR, 1)
        self.assertEqual(outcome("input 2 1 1\ndense 1", singles(1, 1), 1, (0, own)), [0, FOUND])

    # 4097 * 4097 is 16785409: rounded to 16785408 ahead of the sum, it leaves nothing.
    def test_nothing_is_put_together_in_one_rounding(self):
        own = singles(4097, -16785408)
        self.assertEqual(outcome("input 1 1 1\ndense 1", singles(4097), 1, (0, own)), [0, 0])

    def test_minus_zero(self):
        for own, given, out in (([SIGN, SIGN], single(1), SIGN), ([0, SIGN], single(-1), SIGN),
                                ([0, SIGN], single(1), 0), ([SIGN, 0], single(1), 0), ([1, SIGN], SIGN + 1, SIGN),
                                ([1, SIGN], 1, 0), ([SIGN, SIGN], SIGN, 0), ([SIGN, SIGN], 0, SIGN)):
            self.assertEqual(outcome("input 1 1 1\ndense 1", [given], 1, (0, own)), [0, out])

    def test_near_zero_nothing_is_cut_off(self):
        told = outcome("input 1 1 1\ndense 1", [0x00800001], 1, (0, singles(0.5) + [0]))
        self.assertEqual(told, [0, 0x00400000])
        told = outcome("input 1 1 1\ndense 1", [1], 1, (0, singles(1) + [1]))
        self.assertEqual(told, [0, 2])


class ConvTest(unittest.TestCase):

    def test_window_of_one(self):
        own = singles(2, 3, 4, 5, 10, 20)
        told = outcome("input 2 1 2\nconv 2 1", singles(1, 2, 3, 4), 4, (0, own))
        self.assertEqual(told, [0] + singles(21, 26, 39, 48))

    def test_window_of_three(self):
        own = singles(1, 2, 3, 4, 5, 6, 7, 8, 9, 0)
        told = outcome("input 1 3 3\nconv 1 3", singles(0, 0, 0, 0, 1, 0, 0, 0, 0), 9, (0, own))
        self.assertEqual(told, [0] + singles(9, 8, 7, 6, 5, 4, 3, 2, 1))
        told = outcome("input 1 3 3\nconv 1 3", singles(1, 0, 0, 0, 0, 0, 0, 0, 0), 9, (0, own))
        self.assertEqual(told, [0] + singles(5, 4, 0, 2, 1, 0, 0, 0, 0))

    def test_window_of_five(self):
        own = singles(*range(1, 26)) + [0]
        given = [0] * 25
        given[12] = single(1)
        self.assertEqual(outcome("input 1 5 5\nconv 1 5", given, 25, (0, own)), [0] + singles(*range(25, 0, -1)))

    def test_planes_smaller_than_the_window(self):
        own = singles(*range(1, 26)) + singles(0.5)
        self.assertEqual(outcome("input 1 1 1\nconv 1 5", singles(2), 1, (0, own)), [0] + singles(26.5))
        told = outcome("input 1 1 2\nconv 1 5", singles(1, 100), 2, (0, own))
        self.assertEqual(told, [0] + singles(1413.5, 1312.5))
        told = outcome("input 1 2 1\nconv 1 5", singles(1, 100), 2, (0, own))
        self.assertEqual(told, [0] + singles(1813.5, 1308.5))
        own = singles(*range(1, 10)) + singles(0.5)
        self.assertEqual(outcome("input 1 1 1\nconv 1 3", singles(2), 1, (0, own)), [0] + singles(10.5))

    def test_several_planes_given_and_made(self):
        # By plane made, plane given, row, column: all but the middle ones are lost at the edges.
        own = []
        for middle in (1, 2, 3, 4, 5, 6):
            own += [0, 0, 0, 0, middle, 0, 0, 0, 0]
        own = singles(*own) + singles(0.5, 0.25)
        told = outcome("input 3 1 1\nconv 2 3", singles(1, 10, 100), 2, (0, own))
        self.assertEqual(told, [0] + singles(321.5, 654.25))

    def test_rows_and_columns_are_no_others(self):
        own = [0] * 10
        own[5] = single(1)
        told = outcome("input 1 2 3\nconv 1 3", singles(1, 2, 3, 4, 5, 6), 6, (0, own))
        self.assertEqual(told, [0] + singles(2, 3, 0, 5, 6, 0))
        own = [0] * 10
        own[7] = single(1)
        told = outcome("input 1 2 3\nconv 1 3", singles(1, 2, 3, 4, 5, 6), 6, (0, own))
        self.assertEqual(told, [0] + singles(4, 5, 6, 0, 0, 0))

    def test_by_plane_given(self):
        ones = singles(1, 1, 1, 0)
        self.assertEqual(outcome("input 3 1 1\nconv 1 1", singles(FAR, 1, 1), 1, (0, ones)), [0, LOST])
        self.assertEqual(outcome("input 3 1 1\nconv 1 1", singles(1, 1, FAR), 1, (0, ones)), [0, FOUND])

    def test_by_row_then_column(self):
        ones = singles(1) * 9 + [0]
        for given, first in (((1, 1, FAR, 0), FOUND), ((1, FAR, 1, 0), LOST), ((FAR, 1, 1, 0), LOST),
                             ((0, 1, 1, FAR), FOUND)):
            told = outcome("input 1 2 2\nconv 1 3", singles(*given), 4, (0, ones))
            self.assertEqual(told, [0] + [first] * 4)

    def test_by_plane_ahead_of_row_and_column(self):
        ones = singles(1) * 18 + [0]
        for given, first in (((1, 1, FAR, 0), FOUND), ((1, FAR, 1, 0), LOST)):
            for text in ("input 2 1 2\nconv 1 3", "input 2 2 1\nconv 1 3"):
                self.assertEqual(outcome(text, singles(*given), 2, (0, ones)), [0, first, first])

    def test_from_the_further_number_on(self):
        self.assertEqual(outcome("input 2 1 1\nconv 1 1", singles(1, 1), 1, (0, singles(1, 1, FAR))), [0, LOST])
        self.assertEqual(outcome("input 2 1 1\nconv 1 1", singles(1, 1), 1, (0, singles(1, FAR, 1))), [0, FOUND])

    # What isn't in the plane isn't there: it adds no +0.
    def test_minus_zero(self):
        own = [SIGN] * 10
        self.assertEqual(outcome("input 1 1 1\nconv 1 3", singles(1), 1, (0, own)), [0, SIGN])
        self.assertEqual(outcome("input 1 1 1\nconv 1 3", singles(-1), 1, (0, own)), [0, 0])
        self.assertEqual(outcome("input 1 1 2\nconv 1 3", singles(1, -1), 2, (0, own)), [0, 0, 0])
        self.assertEqual(outcome("input 1 1 2\nconv 2 1", singles(1, -1), 4, (0, [SIGN, SIGN, 0, SIGN])),
                         [0, 0, 0, SIGN, 0])


class ReluTest(unittest.TestCase):

    def test_above_zero_or_plus_zero(self):
        given = singles(1, -1) + [0, SIGN, 1, SIGN + 1, MOST, SIGN + MOST, 0x00800000, 0x80800000]
        made = singles(1, 0) + [0, 0, 1, 0, MOST, 0, 0x00800000, 0]
        self.assertEqual(outcome("input 10 1 1\nrelu", given, 10), [0] + made)


class PoolTest(unittest.TestCase):

    def test_each_place_the_greatest(self):
        for place in range(4):
            four = singles(1, 1, 1, 1)
            four[place] = single(2)
            self.assertEqual(outcome("input 1 2 2\npool", four, 1), [0, single(2)])
            four = singles(-2, -2, -2, -2)
            four[place] = single(-1)
            self.assertEqual(outcome("input 1 2 2\npool", four, 1), [0, single(-1)])

    def test_the_first_of_alike_ones(self):
        for zeros in ((0, SIGN, 0, SIGN), (SIGN, 0, SIGN, 0), (SIGN, SIGN, 0, 0), (0, SIGN, SIGN, SIGN),
                      (SIGN, 0, 0, 0)):
            self.assertEqual(outcome("input 1 2 2\npool", zeros, 1), [0, zeros[0]])
        below = singles(-1)
        self.assertEqual(outcome("input 1 2 2\npool", below + [SIGN, 0, 0], 1), [0, SIGN])
        self.assertEqual(outcome("input 1 2 2\npool", below + [0, SIGN, SIGN], 1), [0, 0])
        self.assertEqual(outcome("input 1 2 2\npool", below + below + [SIGN, 0], 1), [0, SIGN])

    def test_far_apart_and_near_together(self):
        self.assertEqual(outcome("input 1 2 2\npool", [SIGN + MOST, SIGN + 1, SIGN + 2, SIGN + MOST], 1), [0, SIGN + 1])
        self.assertEqual(outcome("input 1 2 2\npool", [0x3F800000, 0x3F800001, 0x3F7FFFFF, 1], 1), [0, 0x3F800001])

    def test_planes_rows_and_columns(self):
        given = singles(*range(1, 33))
        self.assertEqual(outcome("input 2 4 4\npool", given, 8), [0] + singles(6, 8, 14, 16, 22, 24, 30, 32))
        self.assertEqual(outcome("input 1 2 16\npool", given, 8), [0] + singles(18, 20, 22, 24, 26, 28, 30, 32))
        self.assertEqual(outcome("input 1 16 2\npool", given, 8), [0] + singles(4, 8, 12, 16, 20, 24, 28, 32))
        self.assertEqual(outcome("input 4 4 2\npool", given, 8), [0] + singles(4, 8, 12, 16, 20, 24, 28, 32))


class SeveralLayersTest(unittest.TestCase):

    def test_one_behind_another(self):
        text = "input 1 2 2\nconv 2 1\nrelu\npool\ndense 1"
        own = ((0, singles(1, -1, 0, 10)), (3, singles(100, 1, 0.5)))
        # conv: 1 -2 3 -4 and 9 12 7 14; relu: 1 0 3 0 and 9 12 7 14; pool: 3 and 14.
        self.assertEqual(outcome(text, singles(1, -2, 3, -4), 1, *own), [0] + singles(314.5))

    def test_dense_over_planes_of_one(self):
        text = "input 1 1 1\ndense 3\nconv 1 1\ndense 2"
        own = ((0, singles(1, 2, 3, 0, 0, 0)), (1, singles(100, 10, 1, 0)), (2, singles(1, -1, 0, 1000)))
        self.assertEqual(outcome(text, singles(1), 2, *own), [0] + singles(123, 877))

    def test_eight_layers(self):
        text = "input 1 1 1" + "\ndense 1" * 8
        own = [(layer, singles(2, 1)) for layer in range(8)]
        self.assertEqual(outcome(text, singles(1), 1, *own), [0] + singles(511))


class RefusalTest(unittest.TestCase):

    TEXT = "input 1 2 2\npool\ndense 3"

    def test_another_n(self):
        for count in (0, 1, 3, 5, 8, 5000):
            self.assertEqual(ask(begin(self.TEXT), run(3, [0] * count)), [[0], [-2]])

    def test_another_m(self):
        for m in (0, 1, 2, 4, 6, -1, -3, -2147483648, 2147483647):
            self.assertEqual(ask(begin(self.TEXT), run(m, [0] * 4)), [[0], [-2]])
        for m in (0, 1, 3, 5, -4, -2147483648, 2147483647):
            self.assertEqual(ask(begin("input 1 2 2"), run(m, [0] * 4)), [[0], [-2]])

    def test_another_n_ahead_of_not_finite(self):
        for number in NOT_FINITE:
            self.assertEqual(ask(begin(self.TEXT), run(3, [number] * 5)), [[0], [-2]])
            self.assertEqual(ask(begin(self.TEXT), run(-3, [number] * 4)), [[0], [-2]])
            self.assertEqual(ask(begin(self.TEXT), run(4, [number] * 4)), [[0], [-2]])

    def test_not_finite(self):
        for number in NOT_FINITE:
            for place in range(4):
                numbers = singles(1, 2, 3, 4)
                numbers[place] = number
                self.assertEqual(ask(begin(self.TEXT), run(3, numbers)), [[0], [-3]])
                self.assertEqual(ask(begin("input 1 2 2"), run(4, numbers)), [[0], [-3]])

    def test_not_finite_ahead_of_a_failure(self):
        own = [MOST, MOST, 0]
        self.assertEqual(outcome("input 2 1 1\ndense 1", [MOST, 0x7F800000], 1, (0, own)), [-3])

    def test_a_product_that_is_not_finite(self):
        two, far, one = singles(2, 2.0 ** 127, 1)
        for text in ("input 1 1 1\ndense 1", "input 1 1 1\nconv 1 1"):
            self.assertEqual(outcome(text, [two], 1, (0, [far, 0])), [-4])
            self.assertEqual(outcome(text, [two + SIGN], 1, (0, [far, 0])), [-4])
            self.assertEqual(outcome(text, [two], 1, (0, [far - 1, 0])), [0, MOST])
            self.assertEqual(outcome(text, [one], 1, (0, [far, 0])), [0, far])

    def test_a_sum_that_is_not_finite(self):
        far, one = singles(2.0 ** 127, 1)
        for text in ("input 1 1 1\ndense 1", "input 1 1 1\nconv 1 1"):
            self.assertEqual(outcome(text, [far], 1, (0, [one, far])), [-4])
            self.assertEqual(outcome(text, [far + SIGN], 1, (0, [one, far + SIGN])), [-4])
            self.assertEqual(outcome(text, [far - 1], 1, (0, [one, far])), [-4])
            self.assertEqual(outcome(text, [far - 2], 1, (0, [one, far])), [0, MOST])

    def test_not_finite_on_the_way_though_not_at_the_end(self):
        far, one, minus_one, two = singles(2.0 ** 127, 1, -1, 2)
        for kind in ("dense 1", "conv 1 1"):
            text = "input 2 1 1\n" + kind
            self.assertEqual(outcome(text, [far, far], 1, (0, [one, minus_one, far])), [-4])
            self.assertEqual(outcome(text, [far, far], 1, (0, [two, minus_one, 0])), [-4])
            self.assertEqual(outcome(text, [far, far], 1, (0, [minus_one, two, far])), [-4])
            self.assertEqual(outcome(text, [far, far], 1, (0, [minus_one, one, far])), [0, far])

    def test_not_finite_on_the_way_among_near_ones(self):
        far, one, minus_one, two = singles(2.0 ** 127, 1, -1, 2)
        for kind in ("dense 2", "conv 2 1"):
            text = "input 3 1 1\n" + kind
            for near in (0, 1, one):
                own = [near, two, minus_one, near, one, minus_one, near, near]
                self.assertEqual(outcome(text, [near, far, far], 2, (0, own)), [-4])
                own = [near, 0, 0, near, one, minus_one, near, far]
                self.assertEqual(outcome(text, [near, far, far], 2, (0, own)), [-4])
                own = [near, 0, 0, near, minus_one, one, near, far]
                self.assertEqual(outcome(text, [near, far, far], 2, (0, own))[0], 0)

    def test_not_finite_in_a_layer_though_not_behind(self):
        far, two, minus_two = singles(2.0 ** 127, 2, -2)
        text = "input 1 1 1\ndense 1\nrelu"
        self.assertEqual(outcome(text, [far], 1, (0, [minus_two, 0])), [-4])
        text = "input 1 1 1\ndense 2\ndense 1"
        self.assertEqual(outcome(text, [far], 1, (0, [two, 0, 0, 0])), [-4])

    def test_in_one_of_many(self):
        far, two, one = singles(2.0 ** 127, 2, 1)
        for place in range(9):
            numbers = [one] * 9
            numbers[place] = far
            self.assertEqual(outcome("input 1 3 3\nconv 1 1", numbers, 9, (0, [two, 0])), [-4])
        for place in range(3):
            weights = [one] * 3
            weights[place] = far
            self.assertEqual(outcome("input 1 1 1\ndense 3", [two], 3, (0, weights + [0] * 3)), [-4])

    def test_no_net(self):
        self.assertEqual(ask(begin("input 1 1 1"), begin(""), run(1, [0])), [[0], [-3], [-9]])


class NothingChangesTest(unittest.TestCase):

    def test_own_numbers_and_what_is_kept_for_a_step(self):
        text = "input 1 1 2\nconv 1 3\nrelu\ndense 1"
        first = [begin(text), set_own(0, singles(*range(10))), set_own(2, singles(1, -2, 3)),
                 train(single(0.125), single(0.5), singles(1, 2), singles(1))]
        runs = [run(1, singles(3, 4)), run(2, singles(3, 4)), run(1, [0x7F800000, 0]), run(1, [MOST, MOST])]
        last = [get_own(0, 10), get_own(2, 3), train(single(0.125), single(0.5), singles(1, 2), singles(1)),
                get_own(0, 10), get_own(2, 3)]
        told = ask(*first, *runs, *last)
        self.assertEqual(told[len(first) + 1:len(first) + 4], [[-2], [-3], [-4]])
        self.assertEqual(told[len(first) + 4:], ask(*first, *last)[len(first):])

    def test_two_runs_answer_alike(self):
        told = ask(begin("input 1 1 1\ndense 1"), set_own(0, singles(2, 1)), run(1, singles(3)), run(1, singles(4)),
                   run(1, singles(3)))
        self.assertEqual(told[2:], [[0] + singles(7), [0] + singles(9), [0] + singles(7)])


if __name__ == "__main__":
    unittest.main()
