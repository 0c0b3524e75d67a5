import unittest

from singlenet.held import Held, answers
from tests.helper import ask, begin, get_own, set_own, sizes

ONE = 0x3F800000


class BeginTest(unittest.TestCase):

    def accept(self, text):
        with self.subTest(text=text):
            self.assertEqual(answers(begin(text)), [1, 0])

    def refuse(self, text):
        with self.subTest(text=text):
            self.assertEqual(answers(begin(text)), [1, -3])


class AcceptedTest(BeginTest):

    def test_no_layer(self):
        self.accept("input 1 1 1")
        self.accept("input 2 3 4")

    def test_newline_behind_the_last_line_or_not(self):
        self.accept("input 2 3 4\n")
        self.accept("input 2 3 4\nrelu")
        self.accept("input 2 3 4\nrelu\n")
        self.accept("input 2 3 4\ndense 5\n")

    def test_eight_layers(self):
        self.accept("input 1 1 1" + "\nrelu" * 8)
        self.accept("input 1 1 1" + "\nrelu" * 8 + "\n")
        self.accept("input 2 8 8\nconv 3 3\nrelu\npool\nconv 4 5\nrelu\npool\ndense 5\nrelu\n")

    def test_each_layer(self):
        for layer in ("conv 2 1", "conv 2 3", "conv 2 5", "dense 7", "relu", "pool"):
            self.accept("input 3 4 6\n" + layer)

    def test_window_wider_than_the_plane(self):
        self.accept("input 1 1 1\nconv 1 5")

    def test_layers_behind_dense(self):
        self.accept("input 1 2 2\ndense 3\nconv 2 3\nrelu\ndense 1")

    def test_numbers_of_one_to_four_digits(self):
        for number in ("1", "9", "10", "99", "100", "999", "1000", "4096"):
            self.accept("input %s 1 1" % number)
            self.accept("input 1 %s 1" % number)
            self.accept("input 1 1 %s" % number)
            self.accept("input 1 1 1\ndense %s" % number)
            self.accept("input 1 1 1\nconv %s 1" % number)


class RefusedTest(BeginTest):

    def test_empty(self):
        self.refuse("")
        self.refuse("\n")
        self.refuse("\n\n")
        self.refuse(" ")

    def test_missing_input(self):
        self.refuse("relu")
        self.refuse("dense 3\n")
        self.refuse("conv 1 1\ninput 1 1 1")
        self.refuse("1 1 1")

    def test_second_input(self):
        self.refuse("input 1 1 1\ninput 1 1 1")
        self.refuse("input 1 1 1\nrelu\ninput 1 1 1\n")

    def test_unknown_word(self):
        for word in ("tanh", "Relu", "RELU", "relu6", "rel", "pools", "conv2", "densee 1", "den 1", "1"):
            self.refuse("input 1 2 2\n" + word)
        for word in ("Input", "INPUT", "inputs", "inpu", "in", "given"):
            self.refuse(word + " 1 1 1")

    def test_blanks(self):
        self.refuse("input  1 1 1")
        self.refuse("input 1  1 1")
        self.refuse("input 1 1  1")
        self.refuse(" input 1 1 1")
        self.refuse("input 1 1 1 ")
        self.refuse("input 1 1 1 \n")
        self.refuse("input 1 1 1 \nrelu")
        for layer in ("conv 1 1", "dense 1", "relu", "pool"):
            self.refuse("input 1 2 2\n" + layer + " ")
            self.refuse("input 1 2 2\n" + layer + " \n")
            self.refuse("input 1 2 2\n " + layer)
        self.refuse("input 1 2 2\nconv  1 1")
        self.refuse("input 1 2 2\nconv 1  1")
        self.refuse("input 1 2 2\ndense  1")
        self.refuse("input 1 2 2\n ")

    def test_empty_lines(self):
        self.refuse("\ninput 1 1 1")
        self.refuse("input 1 1 1\n\n")
        self.refuse("input 1 1 1\n\nrelu")
        self.refuse("input 1 1 1\nrelu\n\n")
        self.refuse("input 1 1 1\nrelu\n\nrelu\n")

    def test_numbers(self):
        bad = ("0", "00", "01", "001", "0001", "00001", "", "10000", "11111", "x", "1x", "x1", "-1", "+1",
               "1.0", "1_0", "1e1", "\xb2", "1\xb2", "\xb9")
        for number in bad:
            self.refuse("input %s 1 1" % number)
            self.refuse("input 1 %s 1" % number)
            self.refuse("input 1 1 %s" % number)
            self.refuse("input 1 1 1\ndense %s" % number)
            self.refuse("input 1 1 1\nconv %s 1" % number)
            self.refuse("input 1 1 1\nconv 1 %s" % number)

    def test_too_few_or_too_many_words(self):
        for line in ("input", "input ", "input 1", "input 1 1", "input 1 1 1 1"):
            self.refuse(line)
        for line in ("conv", "conv 1", "conv 1 1 1", "dense", "dense 1 1", "relu 1", "relu relu", "pool 2"):
            self.refuse("input 1 2 2\n" + line)

    def test_other_windows(self):
        for window in ("2", "4", "6", "7", "9", "11", "13", "15", "03", "1000"):
            self.refuse("input 1 1 1\nconv 1 " + window)

    def test_pool_over_odd(self):
        self.refuse("input 1 1 1\npool")
        self.refuse("input 1 3 2\npool")
        self.refuse("input 1 2 3\npool")
        self.refuse("input 2 2 2\npool\npool")
        self.refuse("input 2 6 4\npool\npool")
        self.refuse("input 1 4 4\ndense 4\npool")
        self.accept("input 3 2 2\npool")
        self.accept("input 1 4 12\npool\npool")

    def test_nine_layers(self):
        self.refuse("input 1 1 1" + "\nrelu" * 9)
        self.refuse("input 1 1 1" + "\nrelu" * 9 + "\n")
        self.refuse("input 1 1 1" + "\nrelu" * 800)

    def test_other_bytes(self):
        for byte in [sign for sign in range(256) if sign != 10]:
            with self.subTest(byte=byte):
                self.assertEqual(ask(begin(list(b"input 1 1 1") + [byte] + list(b"relu"))), [[-3]])
        for byte in [sign for sign in range(256) if sign != 32]:
            with self.subTest(byte=byte):
                self.assertEqual(ask(begin(list(b"input") + [byte] + list(b"1 1 1"))), [[-3]])
        self.refuse("input 1 1 1\r\nrelu\r\n")
        self.refuse("input 1 1 1\x00")
        self.refuse("input\t1\t1\t1")


class LimitsTest(BeginTest):

    def test_given(self):
        for text in ("input 4096 1 1", "input 1 4096 1", "input 1 1 4096", "input 16 16 16", "input 1 64 64"):
            self.accept(text)
        for text in ("input 4097 1 1", "input 1 4097 1", "input 1 1 4097", "input 17 241 1", "input 1 17 241",
                     "input 9999 9999 9999", "input 241 1 17"):
            self.refuse(text)

    def test_made(self):
        self.accept("input 1 64 64\nconv 1 5\nrelu")
        self.accept("input 1 32 32\nconv 4 1")
        self.refuse("input 1 32 32\nconv 5 1")
        self.refuse("input 1 17 1\nconv 241 1")
        self.accept("input 1 1 1\nconv 4096 1")
        self.refuse("input 1 1 1\nconv 4097 1")
        self.accept("input 1 1 1\ndense 4096")
        self.refuse("input 1 1 1\ndense 4097")

    def test_made_within_counts_even_if_less_comes_out(self):
        self.refuse("input 1 64 64\nconv 2 1\npool")
        self.refuse("input 1 1 1\ndense 4097\ndense 1")
        self.accept("input 1 64 64\npool\nconv 4 1")

    def test_own_in_one_layer(self):
        self.accept("input 15 1 1\ndense 4096")
        self.refuse("input 16 1 1\ndense 4096")
        self.refuse("input 16 1 1\ndense 3856")
        self.accept("input 16 1 1\ndense 3855")
        self.accept("input 7 1 1\nconv 1024 3")
        self.refuse("input 7 1 1\nconv 1025 3")

    def test_own_in_all_layers(self):
        self.accept("input 1 1 216\nconv 1 1\ndense 302")
        self.refuse("input 1 1 256\nconv 1 1\ndense 255")
        self.accept("input 1 1 256\ndense 255")
        self.accept("input 15 1 1\ndense 4096\nrelu")
        self.refuse("input 15 1 1\ndense 4096\ndense 1")
        self.refuse("input 1 1 1\nconv 1 1\nrelu\ndense 4096\nconv 15 1")

    def test_far_too_many_own_are_refused_soon(self):
        self.refuse("input 4096 1 1" + "\ndense 4096" * 8)

    def test_bytes(self):
        self.refuse("x" * 4096)
        self.refuse("input 1 1 1" + "\n" * 4085)
        self.assertEqual(ask(begin("x" * 4097)), [[-2]])
        self.assertEqual(ask(begin("input 1 1 1" + "\n" * 4086)), [[-2]])


class AgainTest(unittest.TestCase):

    def test_former_net_is_gone(self):
        told = ask(begin("input 1 1 1\ndense 2\nrelu"), sizes(), begin("input 3 2 2\npool"), sizes(),
                   get_own(1, 0), get_own(0, 4), get_own(0, 0))
        self.assertEqual(told, [[0], [2, 1, 2, 4, 0], [0], [1, 12, 3, 0], [-2], [-2], [0]])

    def test_all_numbers_are_zero_anew(self):
        text = "input 1 1 1\ndense 1\nconv 1 1"
        told = ask(begin(text), set_own(0, [ONE, ONE]), set_own(1, [ONE, 7]), begin(text),
                   get_own(0, 2), get_own(1, 2))
        self.assertEqual(told, [[0], [0], [0], [0], [0, 0, 0], [0, 0, 0]])

    def test_refused_again(self):
        self.assertEqual(ask(begin("input 1 1 1\nrelu"), sizes(), begin("input 0 1 1")), [[0], [1, 1, 1, 0], [-3]])

    # No list holds a call behind a refused begin, so what is held is asked itself.
    def test_no_net_behind_a_refusal(self):
        for text in ([], [120] * 4097):
            held = Held()
            self.assertEqual(held.begin(list(b"input 1 1 1\ndense 1")), [0])
            self.assertLess(held.begin(text)[0], 0)
            self.assertEqual(held.sizes_told(), [-9])
            self.assertEqual(held.set_own(0, [0, 0]), [-9])
            self.assertEqual(held.set_own(5, [0x7F800000]), [-9])
            self.assertEqual(held.get_own(0, 2), [-9])
            self.assertEqual(held.run(1, [0]), [-9])
            self.assertEqual(held.run(5, [0x7F800000]), [-9])
            self.assertEqual(held.train([ONE, 0], [0], [0]), [-9])
            self.assertEqual(held.ease([ONE, 0, 0, ONE], [0], [0]), [-9])
            self.assertEqual(held.begin(list(b"input 1 1 1\ndense 1")), [0])
            self.assertEqual(held.get_own(0, 2), [0, 0, 0])


if __name__ == "__main__":
    unittest.main()
