import contextlib
import io
import unittest

from singlenet.held import UnknownCall, answers
from tests.helper import begin, check_long, flat, get_own, set_own, sizes


class AnswersTest(unittest.TestCase):

    def test_several_calls_by_the_letter(self):
        calls = [0, 19] + list(b"input 1 1 1\ndense 1") + [1, 2, 0, 2, 5, 6, 3, 0, 2, 3, 0, 3, 2, 0, 1, 7, 1]
        self.assertEqual(answers(calls), [1, 0, 4, 1, 1, 1, 2, 1, 0, 3, 0, 5, 6, 1, -2, 1, -2, 4, 1, 1, 1, 2])

    def test_one_call(self):
        self.assertEqual(answers(begin("input 1 1 1")), [1, 0])
        self.assertEqual(answers([0, 0]), [1, -3])

    def test_what_is_handed_in_is_the_same_afterwards(self):
        calls = flat([begin("input 1 1 1\ndense 1"), sizes(), set_own(0, [3, 4]), get_own(0, 2), set_own(0, [5, 6]),
                      set_own(0, [0x7F800000, 1]), begin("input 1 1 1\nrelu"), get_own(0, 0), begin("")])
        before = list(calls)
        answers(calls)
        self.assertEqual(calls, before)

    def test_what_is_given_back_is_a_list_of_whole_numbers(self):
        told = answers(flat([begin("input 1 1 1\ndense 1"), sizes(), set_own(0, [3, 4]), get_own(0, 2)]))
        self.assertIs(type(told), list)
        self.assertEqual({type(number) for number in told}, {int})

    def test_two_times_answer_alike(self):
        calls = flat([begin("input 1 1 1\ndense 1"), get_own(0, 2), set_own(0, [3, 4]), get_own(0, 2)])
        first = answers(calls)
        self.assertEqual(first, [1, 0, 3, 0, 0, 0, 1, 0, 3, 0, 3, 4])
        kept = list(first)
        first.clear()
        self.assertEqual(answers(calls), kept)

    def test_nothing_is_kept_from_another_list(self):
        answers(flat([begin("input 1 1 1\ndense 1"), set_own(0, [3, 4])]))
        self.assertEqual(answers(flat([begin("input 1 1 1\ndense 1"), get_own(0, 2)])), [1, 0, 3, 0, 0, 0])

    def test_three_hundred_calls(self):
        calls = flat([begin("input 1 1 1\ndense 1")] + [set_own(0, [k, k]) + get_own(0, 2) for k in range(149)])
        wanted = [1, 0] + flat([[1, 0, 3, 0, k, k] for k in range(149)])
        check_long(self, answers(calls + [1]), wanted + [4, 1, 1, 1, 2])

    def test_long_answers(self):
        calls = flat([begin("input 15 1 1\ndense 4096")] + [get_own(0, 65536)] * 30)
        check_long(self, answers(calls), [1, 0] + ([65537] + [0] * 65537) * 30)

    def test_nothing_is_printed(self):
        out = io.StringIO()
        with contextlib.redirect_stdout(out), contextlib.redirect_stderr(out):
            answers(flat([begin("input 1 1 1\ndense 1"), sizes(), begin("x")]))
        self.assertEqual(out.getvalue(), "")

    def test_a_number_that_is_no_call(self):
        with self.assertRaises(UnknownCall):
            answers(begin("input 1 1 1") + [7])


if __name__ == "__main__":
    unittest.main()
