import unittest

from tests.helper import ask, begin, get_own, run, set_own, single, singles, train

SIGN = 0x80000000
MOST = 0x7F7FFFFF
ONE = single(1)
HALF = single(0.5)
NOT_FINITE = (0x7F800000, 0xFF800000, 0x7F800001, 0xFF800001, 0x7FC00000, 0xFFC00000, 0x7FFFFFFF, 0xFFFFFFFF)
DENSE = "input 1 1 1\ndense 1"


def power(exponent):
    return single(2.0 ** exponent)


def after(text, own, steps, counts):
    calls = [begin(text)] + [set_own(layer, numbers) for layer, numbers in own] + steps
    told = ask(*calls, *[get_own(layer, count) for layer, count in counts])
    if told[:1 + len(own)] != [[0]] * (1 + len(own)):
        raise AssertionError(told)
    return told[1 + len(own):]


class ErrorTest(unittest.TestCase):

    def test_no_layer(self):
        told = after("input 3 1 1", [], [train(ONE, 0, singles(1, 2, 3), singles(1, 4, 0))], [])
        self.assertEqual(told, [[0, single(13)]])

    def test_no_own_numbers(self):
        step = train(ONE, HALF, singles(1, -2, 3, -4), singles(1, 1, 0, 0))
        self.assertEqual(after("input 4 1 1\nrelu", [], [step, step], [(0, 0)]), [[0, single(10)]] * 2 + [[0]])
        step = train(ONE, HALF, singles(1, -2, 3, -4), singles(1))
        self.assertEqual(after("input 1 2 2\npool\nrelu", [], [step], [(0, 0), (1, 0)]), [[0, single(4)], [0], [0]])

    def test_nothing_is_wrong(self):
        told = after(DENSE, [(0, singles(2, 1))], [train(ONE, ONE, singles(3), singles(7))], [(0, 2)])
        self.assertEqual(told, [[0, 0], [0] + singles(2, 1)])

    # 4096 times 4096 is 16777216: behind it, one by one, ones are lost.
    def test_added_up_in_order(self):
        for numbers, error in (((4096, 1, 1), 16777216), ((1, 1, 4096), 16777218), ((1, -4096, -1), 16777216)):
            told = after("input 3 1 1", [], [train(ONE, 0, singles(*numbers), [0, 0, SIGN])], [])
            self.assertEqual(told, [[0, single(error)]])

    def test_each_is_rounded(self):
        # 4097 * 4097 is 16785409, half way between two singles.
        told = after("input 2 1 1", [], [train(ONE, 0, singles(4097, 1), singles(0, 0))], [])
        self.assertEqual(told, [[0, single(16785408)]])
        # 16777216 + 1 is 16777216: d is rounded before it's taken twice.
        told = after("input 1 1 1", [], [train(ONE, 0, singles(16777216), singles(-1))], [])
        self.assertEqual(told, [[0, power(48)]])

    def test_zeros(self):
        for number in (0, SIGN):
            for wanted in (0, SIGN):
                self.assertEqual(after("input 1 1 1", [], [train(ONE, 0, [number], [wanted])], []), [[0, 0]])

    def test_from_before_the_step(self):
        told = after(DENSE, [(0, singles(2, 1))], [train(HALF, 0, singles(3), singles(5)), run(1, singles(3))], [])
        self.assertEqual(told, [[0, single(4)], [0, single(-13)]])


class StepTest(unittest.TestCase):

    # Made is 7, wanted 5: g is 4, of the weight 12.
    def test_one_step(self):
        told = after(DENSE, [(0, singles(2, 1))], [train(HALF, 0, singles(3), singles(5))], [(0, 2)])
        self.assertEqual(told, [[0, single(4)], [0] + singles(-4, -1)])

    # Made is -13: g is -36, of the weight -108. v was -6 and -2.
    def test_v_is_kept(self):
        steps = [train(HALF, 0, singles(3), singles(5)), train(HALF, HALF, singles(3), singles(5))]
        told = after(DENSE, [(0, singles(2, 1))], steps, [(0, 2)])
        self.assertEqual(told, [[0, single(4)], [0, single(324)], [0] + singles(47, 16)])

    def test_v_is_kept_whatever_mu_was_at_first(self):
        told = [after(DENSE, [(0, singles(2, 1))], [train(HALF, mu, singles(3), singles(5)),
                                                    train(HALF, HALF, singles(3), singles(5))], [(0, 2)])
                for mu in (0, ONE, SIGN, MOST)]
        self.assertEqual(told[1:], told[:1] * 3)

    def test_v_goes_on_where_g_is_zero(self):
        steps = [train(HALF, 0, singles(3), singles(5)), train(HALF, ONE, [0], singles(-1))]
        told = after(DENSE, [(0, singles(2, 1))], steps, [(0, 2)])
        self.assertEqual(told, [[0, single(4)], [0, 0], [0] + singles(-10, -3)])

    def test_v_is_zero_after_set_of_its_layer(self):
        fresh = after(DENSE, [(0, singles(-4, -1))], [train(HALF, HALF, singles(3), singles(5))], [(0, 2)])
        steps = [train(HALF, 0, singles(3), singles(5)), set_own(0, singles(-4, -1)),
                 train(HALF, HALF, singles(3), singles(5))]
        told = after(DENSE, [(0, singles(2, 1))], steps, [(0, 2)])
        self.assertEqual(told[2:], fresh)
        self.assertEqual(told[2:], [[0, single(324)], [0] + singles(50, 17)])

    def test_v_is_kept_at_a_set_that_is_refused(self):
        for refused in (set_own(0, [0x7F800000, 0]), set_own(0, [0]), set_own(1, [0, 0]), set_own(-1, [0, 0])):
            steps = [train(HALF, 0, singles(3), singles(5)), refused, train(HALF, HALF, singles(3), singles(5))]
            told = after(DENSE, [(0, singles(2, 1))], steps, [(0, 2)])
            self.assertEqual(told[2:], [[0, single(324)], [0] + singles(47, 16)])

    def test_v_is_zero_after_begin(self):
        steps = [train(HALF, 0, singles(3), singles(5)), begin(DENSE), train(HALF, HALF, singles(3), singles(5))]
        told = after(DENSE, [(0, singles(2, 1))], steps, [(0, 2)])
        self.assertEqual(told, [[0, single(4)], [0], [0, single(25)], [0] + singles(15, 5)])

    def test_v_of_other_layers_is_kept_at_set(self):
        text = DENSE + "\ndense 1"
        first = train(HALF, 0, singles(1), singles(0))
        second = train(HALF, ONE, [0], singles(0))
        own = [(0, singles(1, 0)), (1, singles(1, 0))]
        # First: made is 1, g 2, of each of the four 2. v is -1, and so the numbers are 0 -1 0 -1.
        self.assertEqual(after(text, own, [first], [(0, 2), (1, 2)])[1:], [[0] + singles(0, -1)] * 2)
        # Then with layer 1 set to zeros: made is 0, g 0, so v alone is added to what layer 0 has.
        told = after(text, own, [first, set_own(1, [0, 0]), second], [(0, 2), (1, 2)])
        self.assertEqual(told[2:], [[0, 0], [0] + singles(-1, -2), [0, 0, 0]])
        told = after(text, own, [first, set_own(0, [0, 0]), train(HALF, ONE, [0], singles(-1))], [(0, 2), (1, 2)])
        self.assertEqual(told[2:], [[0, 0], [0, 0, 0], [0] + singles(-1, -2)])

    # v = mu v - rate g, with mu below 0: of -0 and -0 it is -0, and w stays -0.
    def test_the_sign_of_zero(self):
        for rate, mu, then in ((-1, -1, SIGN), (1, -1, 0), (-1, 1, 0), (1, 1, 0)):
            told = after(DENSE, [(0, [SIGN, SIGN])], [train(single(rate), single(mu), [ONE], [0])], [(0, 2)])
            self.assertEqual(told, [[0, 0], [0, then, then]])
        told = after(DENSE, [(0, [0, 0])], [train(single(-1), single(-1), [ONE], [0])], [(0, 2)])
        self.assertEqual(told, [[0, 0], [0, 0, 0]])


class TakenBackTest(unittest.TestCase):

    def test_dense_below_dense(self):
        text = "input 2 1 1\ndense 2\ndense 2"
        own = [(0, singles(1, 0, 0, 1, 0, 0)), (1, singles(1, 2, 3, 4, 0, 0))]
        # 10 100, 210 430; d is 1 2; of layer 1 20 200 40 400 2 4; of what's given to it 2 + 12, 4 + 16.
        told = after(text, own, [train(ONE, 0, singles(10, 100), singles(209, 428))], [(0, 6), (1, 6)])
        self.assertEqual(told[0], [0, single(5)])
        self.assertEqual(told[1], [0] + singles(1 - 140, -1400, -200, 1 - 2000, -14, -20))
        self.assertEqual(told[2], [0] + singles(1 - 20, 2 - 200, 3 - 40, 4 - 400, -2, -4))

    def test_conv_below_conv(self):
        text = "input 1 1 2\nconv 1 1\nconv 1 3"
        own = [(0, singles(1, 0)), (1, singles(0, 0, 0, 2, 3, 5, 0, 0, 0, 0))]
        # Made: 53 32; g is 2 2. Of what's given to layer 1: 2 * 2 + 2 * 3 and 2 * 3 + 2 * 5.
        told = after(text, own, [train(ONE, 0, singles(1, 10), singles(52, 31))], [(0, 2), (1, 10)])
        self.assertEqual(told[0], [0, single(2)])
        self.assertEqual(told[1], [0] + singles(1 - 170, -26))
        self.assertEqual(told[2], [0] + singles(0, 0, 0, 2 - 2, 3 - 22, 5 - 20, 0, 0, 0, -4))

    def test_several_planes_of_conv(self):
        text = "input 2 1 1\nconv 2 1\nconv 2 1"
        own = [(0, singles(1, 0, 0, 1, 0, 0)), (1, singles(1, 2, 3, 4, 0, 0))]
        told = after(text, own, [train(ONE, 0, singles(10, 100), singles(209, 428))], [(0, 6), (1, 6)])
        self.assertEqual(told[1], [0] + singles(1 - 140, -1400, -200, 1 - 2000, -14, -20))
        self.assertEqual(told[2], [0] + singles(1 - 20, 2 - 200, 3 - 40, 4 - 400, -2, -4))

    def test_relu_above_dense(self):
        text = "input 1 1 1\ndense 5\nrelu"
        # Made is 1, -1, +0, -0, least; d is 1 behind the relu wherever wanted is one less.
        own = singles(0, 0, 0, 0, 0, 1, -1) + [0, SIGN, 1]
        given = [SIGN + ONE]
        wanted = singles(0, -1, -1, -1, -1)
        told = after(text, [(0, own)], [train(ONE, 0, given, wanted)], [(0, 10)])
        self.assertEqual(told, [[0, single(5)], [0] + singles(2, 0, 0, 0, 2, 1 - 2, -1, 0, 0, -2)])

    def test_pool_above_conv(self):
        text = "input 1 2 4\nconv 1 1\npool"
        numbers = singles(1, 5, 3, 3, 2, 4, 3, 3)
        told = after(text, [(0, singles(1, 0))], [train(ONE, 0, numbers, singles(4, 1))], [(0, 2)])
        # 5 and the first 3: d is 1 2, g is 2 4; of the weight 2 * 5 + 4 * 3.
        self.assertEqual(told, [[0, single(5)], [0] + singles(1 - 22, -6)])

    def test_pool_takes_the_first_of_0_and_minus_0(self):
        text = "input 1 2 2\nconv 4 1\nconv 1 1\npool"
        # Of what's made by conv 4 1 all are 0 or -0: taken is the first place, where what's given is 3.
        own = [(0, [0] * 4 + [SIGN, 0, 0, 0]), (1, singles(1, 0, 0, 0, 0))]
        told = after(text, own, [train(ONE, 0, singles(3, 5, -7, 9), singles(-1))], [(0, 8)])
        self.assertEqual(told, [[0, ONE], [0] + singles(-6, 0, 0, 0, -2, 0, 0, 0)])

    def test_a_further_number_of_conv_is_added_up_in_order(self):
        text = "input 1 1 3\nconv 1 1"
        for wanted, further in (((-8388608, -0.5, -0.5), -16777216), ((-0.5, -0.5, -8388608), -16777218)):
            told = after(text, [], [train(ONE, 0, [0, 0, 0], singles(*wanted))], [(0, 2)])
            self.assertEqual(told[1], [0, 0, single(further)])

    def test_a_weight_of_conv_is_added_up_over_y_x(self):
        for shape, columns in (("1 3", 3), ("3 1", 3)):
            for wanted, weight in (((-8388608, -0.5, -0.5), -16777216), ((-0.5, -0.5, -8388608), -16777218)):
                told = after("input 1 %s\nconv 1 1" % shape, [], [train(ONE, 0, [ONE] * columns, singles(*wanted))],
                             [(0, 2)])
                self.assertEqual(told[1], [0, single(weight), single(weight)])
        for wanted, weight in (((-0.5, -0.5, -8388608, 0), -16777218), ((-0.5, -8388608, -0.5, 0), -16777216)):
            told = after("input 1 2 2\nconv 1 1", [], [train(ONE, 0, [ONE] * 4, singles(*wanted))], [(0, 2)])
            self.assertEqual(told[1], [0, single(weight), single(weight)])

    def test_what_is_given_is_added_up_by_what_is_made(self):
        for kind in ("dense", "conv"):
            text = "input 1 1 1\n%s 1%s\n%s 3%s" % (kind, " 1" * (kind == "conv"), kind, " 1" * (kind == "conv"))
            for wanted, further in (((-8388608, -0.5, -0.5), -16777216), ((-0.5, -0.5, -8388608), -16777218)):
                told = after(text, [(1, singles(1, 1, 1, 0, 0, 0))], [train(ONE, 0, [0], singles(*wanted))], [(0, 2)])
                self.assertEqual(told[1], [0, 0, single(further)])


class RefusalTest(unittest.TestCase):

    TEXT = "input 1 2 2\npool\ndense 2"

    def refusals(self, *steps):
        first = [begin(self.TEXT), set_own(1, singles(1, 2, 3, 4)), train(HALF, HALF, singles(1, 2, 3, 4), [0, 0])]
        last = [get_own(1, 4), train(HALF, HALF, singles(1, 2, 3, 4), [0, 0]), get_own(1, 4)]
        told = ask(*first, *steps, *last)
        self.assertEqual(told[3 + len(steps):], ask(*first, *last)[3:])
        return told[3:3 + len(steps)]

    def test_another_count(self):
        for n, m in ((0, 2), (3, 2), (5, 2), (4, 0), (4, 1), (4, 3), (2, 4), (5000, 2), (4, 5000)):
            self.assertEqual(self.refusals(train(HALF, HALF, [0] * n, [0] * m)), [[-2]])

    def test_not_finite(self):
        for number in NOT_FINITE:
            self.assertEqual(self.refusals(train(number, HALF, [0] * 4, [0] * 2)), [[-3]])
            self.assertEqual(self.refusals(train(HALF, number, [0] * 4, [0] * 2)), [[-3]])
            for place in range(4):
                numbers = [0] * 4
                numbers[place] = number
                self.assertEqual(self.refusals(train(HALF, HALF, numbers, [0] * 2)), [[-3]])
            self.assertEqual(self.refusals(train(HALF, HALF, [0] * 4, [number, 0])), [[-3]])
            self.assertEqual(self.refusals(train(HALF, HALF, [0] * 4, [0, number])), [[-3]])

    def test_another_count_ahead_of_not_finite(self):
        for number in NOT_FINITE:
            self.assertEqual(self.refusals(train(number, number, [number] * 3, [number] * 2)), [[-2]])
            self.assertEqual(self.refusals(train(HALF, HALF, [number] * 4, [0] * 3)), [[-2]])

    def test_not_finite_ahead_of_a_failure(self):
        self.assertEqual(self.refusals(train(0x7F800000, HALF, [MOST] * 4, [SIGN + MOST] * 2)), [[-3]])
        self.assertEqual(self.refusals(train(HALF, HALF, [MOST] * 4, [SIGN + MOST] * 2)), [[-4]])

    def test_no_layer_and_no_own_numbers(self):
        for text in ("input 1 1 1", "input 1 1 1\nrelu"):
            told = ask(begin(text), train(ONE, 0, [], [0]), train(ONE, 0, [0], []), train(0x7F800000, 0, [0], [0]),
                       train(ONE, 0, [0], [0x7F800000]), train(ONE, 0, [power(64)], [0]), train(ONE, 0, [0], [0]))
            self.assertEqual(told, [[0], [-2], [-2], [-3], [-3], [-4], [0, 0]])

    def test_no_net(self):
        self.assertEqual(ask(begin(""), train(ONE, 0, [0], [0])), [[-3], [-9]])


# Each of these fails in one place alone: what stands beside it, with something smaller, doesn't.
class FailureTest(unittest.TestCase):

    def check(self, text, own, step, good):
        calls = [begin(text)] + [set_own(layer, numbers) for layer, numbers in own]
        gets = [get_own(layer, len(numbers)) for layer, numbers in own]
        told = ask(*calls, step, *gets, good, *gets)
        self.assertEqual(told[len(calls)], [-4])
        self.assertEqual(told[len(calls) + 1:len(calls) + 1 + len(own)], [[0] + numbers for layer, numbers in own])
        self.assertEqual(told[len(calls) + 1:], ask(*calls, *gets, good, *gets)[len(calls):])
        self.assertEqual(told[-len(gets) - 1][0], 0)

    def test_what_comes_out(self):
        good = train(ONE, 0, [0], [0])
        self.check(DENSE, [(0, [power(127), 0])], train(ONE, 0, singles(2), [0]), good)
        self.check(DENSE, [(0, [power(127), 0])], train(ONE, 0, singles(-2), [0]), good)
        self.check("input 1 1 1\nconv 1 1", [(0, [power(127), 0])], train(ONE, 0, singles(2), [0]), good)

    def test_d(self):
        self.check(DENSE, [(0, [0, 0])], train(0, 0, [0], [MOST]), train(0, 0, [0], [power(63)]))
        told = after("input 1 1 1", [], [train(0, 0, [MOST], [SIGN + MOST])], [])
        self.assertEqual(told, [[-4]])

    def test_the_error(self):
        for d, first in ((power(64), [-4]), (power(64) - 1, [0, 0x7F7FFFFE]), (SIGN + power(64), [-4])):
            self.assertEqual(after("input 1 1 1", [], [train(0, 0, [d], [0])], []), [first])
            self.assertEqual(after("input 1 1 1\nrelu", [], [train(0, 0, [0], [d])], []), [first])

    def test_the_error_added_up(self):
        d = power(63)
        told = after("input 4 1 1", [], [train(0, 0, [d] * 3 + [0], [0] * 4), train(0, 0, [d] * 4, [0] * 4)], [])
        self.assertEqual(told, [[0, single(1.5 * 2.0 ** 127)], [-4]])

    # The weight is 0, so that g times given alone isn't finite, whatever the rate is.
    def test_g_of_a_weight(self):
        for text, own in ((DENSE, [0, 0]), ("input 1 1 1\nconv 1 1", [0, 0]), ("input 1 1 1\nconv 1 3", [0] * 10)):
            self.check(text, [(0, own)], train(0, 0, [power(70)], [power(57)]), train(0, 0, [power(69)], [power(57)]))

    # Each product is finite, their sum isn't.
    def test_g_of_a_weight_of_conv_added_up(self):
        self.check("input 1 2 2\nconv 1 1", [(0, [0, 0])], train(0, 0, [power(68)] * 4, [power(57)] * 4),
                   train(0, 0, [power(68)] * 4, [power(57)] * 3 + [0]))

    # Nothing is given, so that no weight of the conv has a g; of its further number it is 16 times 2 to the 124.
    def test_g_of_a_further_number_of_conv(self):
        text = "input 1 4 4\nconv 1 1\ndense 1"
        own = [(0, [0, 0]), (1, [power(63)] * 16 + [0])]
        self.check(text, own, train(0, 0, [0] * 16, [power(60)]), train(0, 0, [0] * 16, [power(59)]))

    # Nothing is given, so that only what is taken back further isn't finite.
    def test_what_is_taken_back_to_the_first_input(self):
        self.check(DENSE, [(0, [power(70), 0])], train(0, 0, [0], [power(57)]), train(0, 0, [0], [power(56)]))
        self.check("input 1 1 1\nconv 1 1", [(0, [power(70), 0])], train(0, 0, [0], [power(57)]),
                   train(0, 0, [0], [power(56)]))
        self.check("input 1 2 2\nrelu\nconv 1 1\npool", [(1, [power(70), 0])], train(0, 0, [0] * 4, [power(57)]),
                   train(0, 0, [0] * 4, [power(56)]))

    def test_what_is_taken_back_added_up(self):
        for text, count in (("input 1 1 1\ndense 2", 4), ("input 1 1 1\nconv 2 1", 4)):
            self.check(text, [(0, [power(69)] * 2 + [0] * (count - 2))], train(0, 0, [0], [power(57)] * 2),
                       train(0, 0, [0], [power(57), 0]))
            self.check(text, [(0, [power(70), SIGN + power(70)] + [0] * (count - 2))],
                       train(0, 0, [0], [power(57)] * 2), train(0, 0, [0], [power(56)] * 2))

    def test_what_is_taken_back_to_a_layer_between(self):
        text = "input 1 1 1\ndense 1\nrelu\ndense 1"
        self.check(text, [(0, [0, 0]), (2, [power(70), 0])], train(0, 0, [0], [power(57)]),
                   train(0, 0, [0], [power(56)]))

    def test_the_new_v_by_rate(self):
        self.check(DENSE, [(0, [0, 0])], train(power(100), 0, [0], [power(27)]), train(power(100), 0, [0], [power(26)]))

    def test_the_new_v_by_mu(self):
        own = [(0, [0, 0])]
        # v of the further number is then 2 to the power of 60, and nothing is wrong any more.
        first = train(ONE, 0, [0], [power(59)])
        told = after(DENSE, own, [first, train(ONE, power(68), [0], [power(60)]), first, get_own(0, 2)], [])
        self.assertEqual(told[:2], [[0, power(118)], [-4]])
        self.assertEqual(told[2:], after(DENSE, own, [first, first, get_own(0, 2)], [])[1:])
        told = after(DENSE, own, [first, train(ONE, power(67), [0], [power(60)])], [(0, 2)])
        self.assertEqual(told[1:], [[0, 0], [0, 0, power(127)]])

    # mu v and rate g are each 2 to the power of 127, with signs by which they add up or leave nothing.
    def test_the_new_v_by_their_difference(self):
        own = [(0, [0, 0])]
        first = train(ONE, 0, [0], [power(59)])
        wanted = single(2.0 ** 60 + 2.0 ** 59)
        told = after(DENSE, own, [first, train(power(67), power(67), [0], [wanted])], [(0, 2)])
        self.assertEqual(told[1:], [[-4], [0, 0, power(60)]])
        told = after(DENSE, own, [first, train(power(67), SIGN + power(67), [0], [wanted])], [(0, 2)])
        self.assertEqual(told[1:], [[0, power(118)], [0, 0, power(60)]])

    # What is made is 0, d is a quarter: of the weight, g is 2 to the power of -11.
    def test_the_new_w(self):
        own = [(0, [MOST, SIGN + MOST - (10 << 23)])]
        self.check(DENSE, own, train(power(120), 0, [power(-10)], singles(0.25)),
                   train(power(100), 0, [power(-10)], singles(0.25)))

    # By the weights the g of one layer's further number is by far the greatest: only there v isn't finite.
    def test_in_one_of_several_layers(self):
        text = "input 1 1 1\ndense 1\ndense 1\ndense 1"
        for weights, g in (((0, 20, 0), 30), ((0, -20, 20), 30), ((0, 0, -20), 10)):
            own = [(layer, [power(weights[layer]), 0]) for layer in range(3)]
            self.check(text, own, train(power(128 - g), 0, [0], [power(9)]),
                       train(power(127 - g), 0, [0], [power(9)]))


if __name__ == "__main__":
    unittest.main()
