import contextlib
import io
import unittest

from singlenet.held import UnknownCall, answers
from tests.helper import begin, check_long, ease, flat, get_own, run, set_own, singles, sizes, train

ONE, HALF = singles(1, 0.5)


def calls_of_every_kind():
    return flat([begin("input 1 1 2\nconv 1 3\nrelu\ndense 1"), sizes(), set_own(0, singles(*range(10))),
                 set_own(2, singles(1, -1, 2)), get_own(0, 10), run(1, singles(1, 2)), run(2, singles(1, 2)),
                 train(HALF, HALF, singles(1, 2), singles(3)), train(HALF, HALF, singles(1), singles(3)),
                 ease(HALF, HALF, HALF, ONE, singles(1, 2), singles(3)),
                 ease(HALF, HALF, HALF, 0x7F800000, [0, 0], [0]),
                 get_own(0, 10), get_own(2, 3), train(HALF, HALF, [0x7F000000] * 2, singles(3)), run(1, singles(1, 2)),
                 begin("input 1 2 2\npool"), run(1, singles(1, 2, 3, 4)), ease(ONE, 0, 0, 0, [0] * 4, [0]),
                 get_own(0, 0), sizes(), begin("input 1 1 1\ndense 1"), train(ONE, 0, [ONE], [ONE]), get_own(0, 2)])


class AnswersTest(unittest.TestCase):

    def test_several_calls_by_the_letter(self):
        calls = [0, 19] + list(b"input 1 1 1\ndense 1") + [1, 2, 0, 2, 5, 6, 3, 0, 2, 3, 0, 3, 2, 0, 1, 7, 1]
        self.assertEqual(answers(calls), [1, 0, 4, 1, 1, 1, 2, 1, 0, 3, 0, 5, 6, 1, -2, 1, -2, 4, 1, 1, 1, 2])

    def test_run_train_and_ease_by_the_letter(self):
        one, two, three, four, five, seven = singles(1, 2, 3, 4, 5, 7)
        most = singles(0.75)[0]
        calls = [0, 19] + list(b"input 1 1 1\ndense 1") + [2, 0, 2, two, one]
        calls += [4, 1, 1, three, 4, -1, 1, three, 4, 1, 0]
        calls += [5, HALF, 0, 1, three, 1, five, 3, 0, 2, 5, HALF, 0, 0, 1, five]
        calls += [6, HALF, HALF, most, 0, 1, three, 1] + singles(-15) + [3, 0, 2, 6, HALF, HALF, most, 0, 1, three, 0]
        wanted = [1, 0, 1, 0]
        wanted += [2, 0, seven, 1, -2, 1, -2]
        wanted += [2, 0, four, 3, 0] + singles(-4, -1) + [1, -2]
        wanted += [2, 0, four, 3, 0] + singles(-4.5, -1.5) + [1, -2]
        self.assertEqual(answers(calls), wanted)

    def test_one_call(self):
        self.assertEqual(answers(begin("input 1 1 1")), [1, 0])
        self.assertEqual(answers([0, 0]), [1, -3])

    def test_what_is_handed_in_is_the_same_afterwards(self):
        calls = flat([begin("input 1 1 1\ndense 1"), sizes(), set_own(0, [3, 4]), get_own(0, 2), set_own(0, [5, 6]),
                      set_own(0, [0x7F800000, 1]), begin("input 1 1 1\nrelu"), get_own(0, 0), begin("")])
        for handed_in in (calls, calls_of_every_kind()):
            before = list(handed_in)
            answers(handed_in)
            self.assertEqual(handed_in, before)

    def test_what_is_given_back_is_a_list_of_whole_numbers(self):
        told = answers(calls_of_every_kind())
        self.assertIs(type(told), list)
        self.assertEqual({type(number) for number in told}, {int})

    def test_two_times_answer_alike(self):
        calls = flat([begin("input 1 1 1\ndense 1"), get_own(0, 2), set_own(0, [3, 4]), get_own(0, 2)])
        first = answers(calls)
        self.assertEqual(first, [1, 0, 3, 0, 0, 0, 1, 0, 3, 0, 3, 4])
        kept = list(first)
        first.clear()
        self.assertEqual(answers(calls), kept)
        self.assertEqual(answers(calls_of_every_kind()), answers(calls_of_every_kind()))

    def test_nothing_is_kept_from_another_list(self):
        answers(flat([begin("input 1 1 1\ndense 1"), set_own(0, [3, 4])]))
        self.assertEqual(answers(flat([begin("input 1 1 1\ndense 1"), get_own(0, 2)])), [1, 0, 3, 0, 0, 0])
        step = train(ONE, ONE, [ONE], [ONE])
        first = answers(flat([begin("input 1 1 1\ndense 1"), step, get_own(0, 2)]))
        self.assertEqual(answers(flat([begin("input 1 1 1\ndense 1"), step, get_own(0, 2)])), first)

    def test_three_hundred_calls(self):
        calls = flat([begin("input 1 1 1\ndense 1")] + [set_own(0, [k, k]) + get_own(0, 2) for k in range(149)])
        wanted = [1, 0] + flat([[1, 0, 3, 0, k, k] for k in range(149)])
        check_long(self, answers(calls + [1]), wanted + [4, 1, 1, 1, 2])

    def test_long_answers(self):
        calls = flat([begin("input 15 1 1\ndense 4096")] + [get_own(0, 65536)] * 30)
        check_long(self, answers(calls), [1, 0] + ([65537] + [0] * 65537) * 30)

    def test_nothing_is_printed(self):
        out = io.StringIO()
        with contextlib.redirect_stdout(out), contextlib.redirect_stderr(out):
            answers(flat([begin("input 1 1 1\ndense 1"), sizes(), begin("x")]))
            answers(calls_of_every_kind())
        self.assertEqual(out.getvalue(), "")

    def test_a_number_that_is_no_call(self):
        for number in (7, -1):
            with self.assertRaises(UnknownCall):
                answers(begin("input 1 1 1") + [number])


if __name__ == "__main__":
    unittest.main()
