import unittest

from tests.helper import ask, begin, ease, get_own, set_own, single, singles, train

SIGN = 0x80000000
MOST = 0x7F7FFFFF
ONE = single(1)
HALF = single(0.5)
QUARTER = single(0.25)
NOT_FINITE = (0x7F800000, 0xFF800000, 0x7F800001, 0xFF800001, 0x7FC00000, 0xFFC00000, 0x7FFFFFFF, 0xFFFFFFFF)
DENSE = "input 1 1 1\ndense 1"


def power(exponent):
    return single(2.0 ** exponent)


def after(text, own, steps, counts):
    calls = [begin(text)] + [set_own(layer, numbers) for layer, numbers in own] + steps
    told = ask(*calls, *[get_own(layer, count) for layer, count in counts])
    if told[:1 + len(own)] != [[0]] * (1 + len(own)):
        raise AssertionError(told)
    return told[1 + len(own):]


# Of 2 and 1 and what's given, 3, is made 7; wanted is 5: g is 4, of the weight 12.
def first_step(rate, b1, b2, eps):
    return after(DENSE, [(0, singles(2, 1))], [ease(rate, b1, b2, eps, singles(3), singles(5))], [(0, 2)])


class StepTest(unittest.TestCase):

    # m is 6 and 2, s 36 and 4, and so what's taken off is the rate.
    def test_one_step(self):
        told = first_step(HALF, HALF, single(0.75), 0)
        self.assertEqual(told, [[0, single(4)], [0] + singles(1.5, 0.5)])

    def test_rate(self):
        self.assertEqual(first_step(0, HALF, single(0.75), 0)[1], [0] + singles(2, 1))
        self.assertEqual(first_step(single(-4), HALF, single(0.75), 0)[1], [0] + singles(6, 5))

    def test_b1_and_b2(self):
        # m is 12 and 4, s 144 and 16.
        self.assertEqual(first_step(ONE, 0, 0, 0)[1], [0] + singles(1, 0))
        # m is 3 and 1.
        self.assertEqual(first_step(ONE, single(0.75), 0, 0)[1], [0] + singles(1.75, 0.75))
        # m is 0.
        self.assertEqual(first_step(ONE, ONE, 0, 0)[1], [0] + singles(2, 1))
        # s is 36 and 4.
        self.assertEqual(first_step(ONE, 0, single(0.75), 0)[1], [0] + singles(0, -1))
        # m is -12 and -4; s is 4 * 144 and 4 * 16.
        self.assertEqual(first_step(ONE, single(2), single(-3), 0)[1], [0] + singles(2.5, 1.5))

    # The root, then eps added: 6 + 13 and not the root of 36 + 13; 2 + 13.
    def test_eps(self):
        told = first_step(single(19), HALF, single(0.75), single(13))
        self.assertEqual(told[1][:2], [0, single(-4)])
        told = first_step(single(15), HALF, single(0.75), single(13))
        self.assertEqual(told[1][2], single(-1))

    def test_eps_below_zero(self):
        told = first_step(single(4), HALF, single(0.75), single(-10))
        self.assertEqual(told[1], [0] + singles(2 + 6, 1 + 1))

    # g is 4 and 12 at first, then, with nothing wrong any more, 0: m is halved, s is a quarter.
    def test_m_and_s_are_kept(self):
        steps = [ease(HALF, HALF, single(0.75), 0, singles(3), singles(5)),
                 ease(HALF, HALF, QUARTER, 0, singles(3), singles(5))]
        told = after(DENSE, [(0, singles(2, 1))], steps, [(0, 2)])
        # Made is 5 then. m is 3 and 1, s 9 and 1.
        self.assertEqual(told, [[0, single(4)], [0, 0], [0] + singles(1, 0)])

    def test_m_and_s_are_zero_after_set_of_its_layer(self):
        step = ease(HALF, HALF, single(0.75), 0, singles(3), singles(5))
        other = ease(HALF, QUARTER, HALF, ONE, singles(2), singles(1))
        fresh = after(DENSE, [(0, singles(4, 2))], [other], [(0, 2)])
        told = after(DENSE, [(0, singles(2, 1))], [step, set_own(0, singles(4, 2)), other], [(0, 2)])
        self.assertEqual(told[2:], fresh)
        kept = after(DENSE, [(0, singles(2, 1))], [step, set_own(0, [0x7F800000, 0]), other], [(0, 2)])
        self.assertEqual(kept[1], [-3])
        self.assertEqual(kept[2:], after(DENSE, [(0, singles(2, 1))], [step, other], [(0, 2)])[1:])

    def test_m_and_s_are_zero_after_begin(self):
        step = ease(HALF, HALF, single(0.75), HALF, singles(3), singles(5))
        told = after(DENSE, [(0, singles(2, 1))], [step, begin(DENSE), step], [(0, 2)])
        self.assertEqual(told[2:], after(DENSE, [], [step], [(0, 2)]))

    def test_m_and_s_of_other_layers_are_kept_at_set(self):
        text = DENSE + "\ndense 1"
        own = [(0, singles(1, 0)), (1, singles(1, 0))]
        first = ease(ONE, HALF, single(0.75), ONE, singles(1), singles(0))
        # Made is 1, g 2 of all four: m is 1, s 1, taken off 1 / 2.
        told = after(text, own, [first], [(0, 2), (1, 2)])
        self.assertEqual(told[1:], [[0] + singles(0.5, -0.5)] * 2)
        # Then g is 0 with layer 1 set to zeros: m is 0.5, s 0.25, taken off of layer 0 is 0.5 / 1.5.
        second = ease(single(3), HALF, QUARTER, ONE, singles(0), singles(0))
        told = after(text, own, [first, set_own(1, [0, 0]), second], [(0, 2), (1, 2)])
        self.assertEqual(told[2:], [[0, 0], [0] + singles(0.5 - 1, -0.5 - 1), [0, 0, 0]])
        told = after(text, own, [first, set_own(0, [0, 0]), ease(single(3), HALF, QUARTER, ONE, singles(0),
                                                                 singles(-0.5))], [(0, 2), (1, 2)])
        self.assertEqual(told[2:], [[0, 0], [0, 0, 0], [0] + singles(0.5 - 1, -0.5 - 1)])

    # 3 is no square: 1.7320508 to the nearest.
    def test_a_root_that_is_rounded(self):
        for text in (DENSE, "input 1 1 1\nconv 1 1"):
            # g is -2, s 3: 2 / 1.7320508 is 1.1547005.
            told = after(text, [], [ease(ONE, 0, QUARTER, 0, [ONE], [ONE])], [(0, 2)])
            self.assertEqual(told, [[0, ONE], [0, 0x3F93CD3A, 0x3F93CD3A]])

    def test_the_sign_of_zero(self):
        # w is -0: m / (.. + eps) is +0 or -0, and -0 less +0 is -0.
        for rate, then in ((ONE, 0), (SIGN + ONE, SIGN)):
            told = after(DENSE, [(0, [SIGN, SIGN])], [ease(rate, SIGN + ONE, 0, ONE, [ONE], [0])], [(0, 2)])
            self.assertEqual(told, [[0, 0], [0, then, then]])


class MixedTest(unittest.TestCase):

    def test_v_m_and_s_go_on_by_themselves(self):
        # Once what's made is below 0 the relu holds back all g, and only what was kept goes on.
        text = "input 1 1 1\ndense 1\nrelu"
        a = train(HALF, 0, [0], singles(0.5))
        b = ease(single(8), HALF, single(0.75), HALF, [0], [0])
        c = train(ONE, HALF, [0], [0])
        d = ease(single(4), HALF, QUARTER, QUARTER, [0], [0])
        get = get_own(0, 2)
        told = after(text, [(0, [0, ONE])], [a, get, b, get, c, get, d, get, c, get], [])
        # a: g 1, v -0.5. b: g 1, m 0.5, s 0.25, taken off 4 / 1. c: v -0.25. d: m 0.25, s 0.0625, taken off 1 / 0.5.
        self.assertEqual(told[::2], [[0, QUARTER], [0, QUARTER], [0, 0], [0, 0], [0, 0]])
        self.assertEqual(told[1::2], [[0] + singles(0, w) for w in (0.5, -3.5, -3.75, -5.75, -5.875)])

    def test_set_makes_all_three_zero(self):
        text = "input 1 1 1\ndense 1\nrelu"
        steps = [train(HALF, 0, [0], singles(0.5)), ease(single(8), HALF, single(0.75), HALF, [0], [0]),
                 set_own(0, singles(0, -1)), train(ONE, HALF, [0], [0]), ease(single(4), HALF, QUARTER, ONE, [0], [0])]
        told = after(text, [(0, [0, ONE])], steps, [(0, 2)])
        self.assertEqual(told[3:], [[0, 0], [0, 0], [0] + singles(0, -1)])


class NoOwnNumbersTest(unittest.TestCase):

    # No quotient, no root: eps and s don't matter.
    def test_the_error(self):
        for text in ("input 2 1 1", "input 2 1 1\nrelu", "input 2 1 1\nrelu\nrelu"):
            told = after(text, [], [ease(ONE, 0, single(2), 0, singles(1, 2), singles(4, 6))], [])
            self.assertEqual(told, [[0, single(25)]])

    def test_a_refusal(self):
        for text in ("input 1 1 1", "input 1 1 1\nrelu"):
            told = ask(begin(text), ease(ONE, 0, 0, 0, [], [0]), ease(ONE, 0, 0, 0, [0], []),
                       ease(ONE, 0, 0, 0x7F800000, [0], [0]), ease(ONE, 0, 0, 0, [0], [0x7F800000]),
                       ease(ONE, 0, 0, 0, [power(64)], [0]), ease(ONE, 0, 0, 0, [0], [0]))
            self.assertEqual(told, [[0], [-2], [-2], [-3], [-3], [-4], [0, 0]])


class RefusalTest(unittest.TestCase):

    TEXT = "input 1 2 2\npool\ndense 2"

    def refusals(self, *steps):
        good = ease(HALF, HALF, HALF, HALF, singles(1, 2, 3, 4), [0, 0])
        first = [begin(self.TEXT), set_own(1, singles(1, 2, 3, 4)), good]
        last = [get_own(1, 4), good, get_own(1, 4)]
        told = ask(*first, *steps, *last)
        self.assertEqual(told[3 + len(steps):], ask(*first, *last)[3:])
        return told[3:3 + len(steps)]

    def test_another_count(self):
        for n, m in ((0, 2), (3, 2), (5, 2), (4, 0), (4, 1), (4, 3), (2, 4), (5000, 2), (4, 5000)):
            self.assertEqual(self.refusals(ease(HALF, HALF, HALF, HALF, [0] * n, [0] * m)), [[-2]])

    def test_not_finite(self):
        for number in NOT_FINITE:
            for place in range(4):
                rates = [HALF] * 4
                rates[place] = number
                self.assertEqual(self.refusals(ease(*rates, [0] * 4, [0] * 2)), [[-3]])
                numbers = [0] * 4
                numbers[place] = number
                self.assertEqual(self.refusals(ease(HALF, HALF, HALF, HALF, numbers, [0] * 2)), [[-3]])
            self.assertEqual(self.refusals(ease(HALF, HALF, HALF, HALF, [0] * 4, [number, 0])), [[-3]])
            self.assertEqual(self.refusals(ease(HALF, HALF, HALF, HALF, [0] * 4, [0, number])), [[-3]])

    def test_another_count_ahead_of_not_finite(self):
        for number in NOT_FINITE:
            self.assertEqual(self.refusals(ease(number, number, number, number, [number] * 3, [number] * 2)), [[-2]])
            self.assertEqual(self.refusals(ease(HALF, HALF, HALF, HALF, [number] * 4, [0] * 3)), [[-2]])

    def test_not_finite_ahead_of_a_failure(self):
        self.assertEqual(self.refusals(ease(HALF, HALF, HALF, 0x7F800000, [MOST] * 4, [SIGN + MOST] * 2)), [[-3]])
        self.assertEqual(self.refusals(ease(HALF, HALF, HALF, HALF, [MOST] * 4, [SIGN + MOST] * 2)), [[-4]])

    def test_no_net(self):
        self.assertEqual(ask(begin(""), ease(ONE, 0, 0, ONE, [0], [0])), [[-3], [-9]])


# Each of these fails in one place alone: what stands beside it, with something smaller, doesn't.
class FailureTest(unittest.TestCase):

    # Ahead of both a step is done, so that m and s aren't +0.
    def check(self, bad, good, text=DENSE, own=((0, (ONE, ONE)),), ahead=ease(ONE, HALF, HALF, ONE, [ONE], [0])):
        calls = [begin(text)] + [set_own(layer, numbers) for layer, numbers in own] + [ahead]
        gets = [get_own(layer, len(numbers)) for layer, numbers in own]
        told = ask(*calls, *gets, bad, *gets, good, *gets)
        self.assertEqual(told[len(calls) - 1][0], 0)
        first = len(calls) + len(gets)
        self.assertEqual(told[first], [-4])
        self.assertEqual(told[first + 1:first + 1 + len(gets)], told[len(calls):first])
        self.assertEqual(told[first + 1:], ask(*calls, *gets, good, *gets)[len(calls):])
        self.assertEqual(told[-len(gets) - 1][0], 0)

    def test_what_comes_out(self):
        self.check(ease(ONE, HALF, HALF, ONE, [MOST], [0]), ease(ONE, HALF, HALF, ONE, [0], [0]),
                   own=((0, singles(4, 0)),))

    def test_the_error(self):
        self.check(ease(0, 0, ONE, ONE, [0], [power(64)]), ease(0, 0, ONE, ONE, [0], [power(62)]))

    def test_what_is_taken_back(self):
        # g times given, nothing else: the weight is 0.
        self.check(ease(0, ONE, ONE, ONE, [power(70)], [power(57)]), ease(0, ONE, ONE, ONE, [ONE], [power(57)]),
                   own=((0, (0, 0)),), ahead=ease(0, HALF, HALF, ONE, [ONE], [ONE]))
        # g times weight, nothing else: what's given is 0, and it's the first layer's input.
        self.check(ease(0, ONE, ONE, ONE, [0], [power(57)]), ease(0, ONE, ONE, ONE, [0], [power(56)]),
                   own=((0, (power(70), 0)),), ahead=ease(0, HALF, HALF, ONE, [0], [ONE]))

    def test_the_new_m_by_g(self):
        self.check(ease(0, power(127), HALF, ONE, [0], singles(5)), ease(0, power(100), HALF, ONE, [0], singles(5)))

    # Nothing is given and g is 0, so that m, made by the step ahead, is all there is.
    def test_the_new_m_by_m(self):
        self.check(ease(0, power(127), HALF, ONE, [0], [0]), ease(0, power(110), HALF, ONE, [0], [0]),
                   own=((0, (0, 0)),), ahead=ease(0, HALF, HALF, ONE, [0], singles(-4)))

    # g times g isn't finite though d times d is; and 1 - b2 is 0.
    def test_g_times_g(self):
        self.check(ease(0, 0, ONE, ONE, [0], [power(63)]), ease(0, 0, ONE, ONE, [0], [power(62)]),
                   own=((0, (0, 0)),), ahead=ease(0, HALF, HALF, ONE, [0], [ONE]))

    def test_the_new_s_by_g(self):
        self.check(ease(0, 0, SIGN + power(27), ONE, [0], [power(50)]), ease(0, 0, SIGN + power(20), ONE, [0],
                                                                              [power(50)]),
                   own=((0, (0, 0)),), ahead=ease(0, HALF, ONE, ONE, [0], [ONE]))

    def test_the_new_s_by_s(self):
        self.check(ease(0, 0, power(107), ONE, [0], [0]), ease(0, 0, power(106), ONE, [0], [0]),
                   own=((0, (0, 0)),), ahead=ease(0, HALF, HALF, ONE, [0], [power(10)]))

    def test_a_root_of_what_is_below_zero(self):
        # s is 2 s - g g then: below 0 or not.
        self.check(ease(0, 0, single(2), ONE, [0], [single(4)]), ease(0, 0, single(2), ONE, [0], [ONE]),
                   own=((0, (0, 0)),), ahead=ease(0, HALF, HALF, ONE, [0], [ONE]))
        self.check(ease(0, 0, SIGN + ONE, ONE, [0], [0]), ease(0, 0, ONE, ONE, [0], [0]),
                   own=((0, (0, 0)),), ahead=ease(0, HALF, HALF, ONE, [0], [ONE]))

    # s of the weight is +0, as nothing is given.
    def test_a_quotient_by_zero(self):
        for eps in (0, SIGN):
            for rate in (0, ONE):
                self.check(ease(rate, 0, 0, eps, [0], [ONE]), ease(rate, 0, 0, ONE, [0], [ONE]),
                           own=((0, (0, 0)),), ahead=ease(0, HALF, HALF, ONE, [0], [ONE]))

    # g is 4: the root of s is 4.
    def test_a_quotient_by_a_root_and_its_opposite(self):
        self.check(ease(ONE, 0, 0, single(-4), [ONE], singles(-2)), ease(ONE, 0, 0, single(-5), [ONE], singles(-2)),
                   own=((0, (0, 0)),), ahead=ease(0, HALF, HALF, ONE, [0], [0]))

    def test_rate_times_m(self):
        self.check(ease(power(127), 0, 0, power(100), [0], singles(-1)),
                   ease(power(126), 0, 0, power(100), [0], singles(-1)),
                   own=((0, (0, 0)),), ahead=ease(0, HALF, HALF, ONE, [0], [0]))

    def test_the_root_and_the_greatest_eps(self):
        # The greatest root is 2 to the power of 64: with eps it's never beyond the greatest single.
        told = after(DENSE, [], [ease(ONE, 0, 0, MOST, [ONE], [power(61)])], [(0, 2)])
        self.assertEqual(told[0][0], 0)

    def test_the_quotient(self):
        self.check(ease(ONE, 0, ONE, power(-127), [0], singles(-1)), ease(ONE, 0, ONE, power(-126), [0], singles(-1)),
                   own=((0, (0, 0)),), ahead=ease(0, HALF, ONE, ONE, [0], [0]))

    # What is made is 0, d is a quarter: of the weight, m is 2 to the power of -11.
    def test_the_new_w(self):
        own = ((0, (MOST, SIGN + MOST - (10 << 23))),)
        for sign in (0, SIGN):
            self.check(ease(power(120), 0, ONE, ONE, [power(-10)], singles(0.25)),
                       ease(power(100), 0, ONE, ONE, [power(-10)], singles(0.25)), own=own,
                       ahead=ease(sign, 0, ONE, ONE, [power(-10)], singles(0.25)))


if __name__ == "__main__":
    unittest.main()
