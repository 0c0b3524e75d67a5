import unittest

from tests.helper import ask, begin, get_own, set_own, sizes


class SizesTest(unittest.TestCase):

    def check(self, text, wanted):
        with self.subTest(text=text):
            self.assertEqual(ask(begin(text), sizes()), [[0], wanted])

    def test_no_layer(self):
        self.check("input 1 1 1", [0, 1, 1])
        self.check("input 2 3 4\n", [0, 24, 24])
        self.check("input 16 16 16", [0, 4096, 4096])

    def test_conv(self):
        self.check("input 3 4 5\nconv 2 1", [1, 60, 40, 2 * 3 * 1 + 2])
        self.check("input 3 4 5\nconv 2 3", [1, 60, 40, 2 * 3 * 9 + 2])
        self.check("input 3 4 5\nconv 2 5", [1, 60, 40, 2 * 3 * 25 + 2])
        self.check("input 1 1 1\nconv 1 5", [1, 1, 1, 26])

    def test_dense(self):
        self.check("input 3 4 5\ndense 7", [1, 60, 7, 7 * 60 + 7])
        self.check("input 1 1 1\ndense 1", [1, 1, 1, 2])

    def test_relu(self):
        self.check("input 3 4 5\nrelu", [1, 60, 60, 0])

    def test_pool(self):
        self.check("input 3 4 6\npool", [1, 72, 18, 0])
        self.check("input 5 2 2\npool", [1, 20, 5, 0])
        self.check("input 1 2 8\npool", [1, 16, 4, 0])

    def test_layers_of_every_kind(self):
        self.check("input 1 8 12\nconv 4 3\nrelu\npool\nconv 6 5\nrelu\npool\ndense 10\ndense 3\n",
                   [8, 96, 3, 40, 0, 0, 606, 0, 0, 370, 33])

    def test_conv_and_pool_keep_planes_rows_and_columns_apart(self):
        self.check("input 2 4 6\npool\nconv 3 1\nconv 1 3\ndense 2",
                   [4, 48, 2, 0, 9, 28, 14])

    def test_behind_dense_there_are_planes_of_one(self):
        self.check("input 1 4 4\ndense 6\nconv 2 3\ndense 5", [3, 16, 5, 102, 110, 15])

    def test_eight_layers(self):
        self.check("input 1 2 3" + "\nrelu" * 8, [8, 6, 6] + [0] * 8)

    def test_at_the_limits(self):
        self.check("input 15 1 1\ndense 4096", [1, 15, 4096, 65536])
        self.check("input 1 1 216\nconv 1 1\ndense 302", [2, 216, 302, 2, 65534])

    def test_unchanged_by_set_and_get(self):
        told = ask(begin("input 1 1 1\ndense 2"), set_own(0, [1, 2, 3, 4]), get_own(0, 4), set_own(1, []), sizes())
        self.assertEqual(told[-1], [1, 1, 2, 4])


if __name__ == "__main__":
    unittest.main()
