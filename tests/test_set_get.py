import unittest

from singlenet.single import is_finite
from tests.helper import ask, begin, check_long, get_own, set_own

TEXT = "input 1 2 2\nconv 2 1\nrelu\npool\ndense 2"
COUNTS = (4, 0, 0, 6)
FINITE = (0, 0x80000000, 1, 0x80000001, 0x007FFFFF, 0x807FFFFF, 0x00800000, 0x80800000, 0x3F800000, 0xBF800000,
          0x7F000000, 0x7F7FFFFF, 0xFF7FFFFF)
NOT_FINITE = (0x7F800000, 0xFF800000, 0x7F800001, 0xFF800001, 0x7FC00000, 0xFFC00000, 0x7FFFFFFF, 0xFFFFFFFF)
FAR = (-2147483648, -65536, -2, 2147483647)


class GetTest(unittest.TestCase):

    def test_all_zero_after_begin(self):
        for layer, count in enumerate(COUNTS):
            self.assertEqual(ask(begin(TEXT), get_own(layer, count)), [[0], [0] * (1 + count)])

    def test_as_many_as_may_be(self):
        told = ask(begin("input 15 1 1\ndense 4096"), get_own(0, 65536))
        self.assertEqual(told[0], [0])
        check_long(self, told[1], [0] * 65537)

    def test_no_such_layer(self):
        for layer in (-1, -4, 4, 5) + FAR:
            for count in COUNTS:
                with self.subTest(layer=layer, count=count):
                    self.assertEqual(ask(begin(TEXT), get_own(layer, count)), [[0], [-2]])

    def test_no_layer_at_all(self):
        for layer in (-1, 0, 1):
            self.assertEqual(ask(begin("input 1 1 1"), get_own(layer, 0)), [[0], [-2]])

    def test_another_n(self):
        for layer, count in enumerate(COUNTS):
            for other in (count - 1, count + 1, -count - 1, 10) + FAR:
                with self.subTest(layer=layer, other=other):
                    self.assertEqual(ask(begin(TEXT), get_own(layer, other)), [[0], [-2]])


class SetTest(unittest.TestCase):

    def test_same_bits_come_out(self):
        text = "input %d 1 1\nrelu\nconv 1 1" % (len(FINITE) - 1)
        told = ask(begin(text), set_own(1, FINITE), get_own(1, len(FINITE)), get_own(1, len(FINITE)))
        self.assertEqual(told, [[0], [0], [0] + list(FINITE), [0] + list(FINITE)])

    def test_every_layer_has_its_own(self):
        told = ask(begin(TEXT), set_own(0, [1, 2, 3, 4]), set_own(1, []), set_own(2, []),
                   set_own(3, [5, 6, 7, 8, 9, 10]), get_own(0, 4), get_own(1, 0), get_own(2, 0), get_own(3, 6))
        self.assertEqual(told, [[0]] * 5 + [[0, 1, 2, 3, 4], [0], [0], [0, 5, 6, 7, 8, 9, 10]])

    def test_layers_alike_keep_their_numbers_apart(self):
        told = ask(begin("input 1 1 1\ndense 1\ndense 1"), set_own(1, [8, 9]), get_own(0, 2), get_own(1, 2))
        self.assertEqual(told, [[0], [0], [0, 0, 0], [0, 8, 9]])

    def test_the_last_set_holds(self):
        told = ask(begin("input 1 1 1\ndense 1"), set_own(0, [1, 2]), set_own(0, [3, 0x80000000]), get_own(0, 2))
        self.assertEqual(told, [[0], [0], [0], [0, 3, 0x80000000]])

    def test_many_numbers(self):
        numbers = [(k * 2654435761) % 0x7F800000 for k in range(29000)]
        told = ask(begin("input 28 1 1\ndense 1000"), set_own(0, numbers), get_own(0, 29000))
        self.assertEqual(told[:2], [[0], [0]])
        check_long(self, told[2], [0] + numbers)

    def test_no_such_layer(self):
        for layer in (-1, -4, 4, 5) + FAR:
            for count in COUNTS:
                with self.subTest(layer=layer, count=count):
                    told = ask(begin(TEXT), set_own(layer, [1] * count), get_own(0, 4), get_own(3, 6))
                    self.assertEqual(told, [[0], [-2], [0] * 5, [0] * 7])

    def test_another_n(self):
        for layer, count in enumerate(COUNTS):
            for other in (0, 1, count - 1, count + 1, 20):
                if other in (-1, count):
                    continue
                with self.subTest(layer=layer, other=other):
                    told = ask(begin(TEXT), set_own(layer, [1] * other), get_own(layer, count))
                    self.assertEqual(told, [[0], [-2], [0] * (1 + count)])

    def test_not_finite_and_what_is_held_is_as_it_was(self):
        for number in NOT_FINITE:
            for place in range(4):
                with self.subTest(number=number, place=place):
                    numbers = [9, 9, 9, 9]
                    numbers[place] = number
                    told = ask(begin(TEXT), set_own(0, [1, 2, 3, 4]), set_own(0, numbers), get_own(0, 4))
                    self.assertEqual(told, [[0], [0], [-3], [0, 1, 2, 3, 4]])

    def test_wrong_count_is_told_ahead_of_not_finite(self):
        for number in NOT_FINITE:
            told = ask(begin(TEXT), set_own(0, [number] * 3), set_own(-1, [number] * 6), set_own(4, [number] * 4),
                       set_own(1, [number]))
            self.assertEqual(told, [[0], [-2], [-2], [-2], [-2]])


class FiniteTest(unittest.TestCase):

    def test_finite(self):
        for single in FINITE:
            self.assertTrue(is_finite(single), hex(single))

    def test_not_finite(self):
        for single in NOT_FINITE:
            self.assertFalse(is_finite(single), hex(single))


if __name__ == "__main__":
    unittest.main()
