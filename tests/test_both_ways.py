"""Whole lists of calls, against the second way of reckoning nets that tests/model.py has."""

import random
import unittest

from singlenet.held import answers
from tests.helper import begin, check_long, ease, get_own, run, set_own, sizes, train
from tests.model import Model, to_bits, to_float

SIGN = 0x80000000
LAYERS = ("conv 1 1", "conv 2 1", "conv 1 3", "conv 3 3", "conv 1 5", "conv 2 5", "dense 1", "dense 4", "relu", "pool")
SHAPES = ((1, 1, 1), (1, 1, 2), (1, 2, 1), (3, 1, 1), (1, 2, 2), (2, 2, 2), (1, 3, 3), (2, 4, 2), (1, 2, 6), (2, 3, 5),
          (1, 6, 6), (3, 4, 4))


class Numbers:

    def __init__(self, seed):
        self.rng = random.Random(seed)

    def ordinary(self):
        return to_bits(self.rng.gauss(0, 1))

    def whole(self):
        return to_bits(float(self.rng.randrange(-3, 4)))

    def zero_or_so(self):
        return self.rng.choice((0, SIGN, SIGN, 1, SIGN + 1, 0x3F800000, 0xBF800000))

    def small(self):
        return self.spread(30, 70)

    def great(self):
        return self.spread(150, 192)

    def any(self):
        return self.spread(0, 255)

    def spread(self, low, high):
        return (self.rng.getrandbits(1) << 31) | (self.rng.randrange(low, high) << 23) | self.rng.getrandbits(23)

    def many(self, names, count):
        way = getattr(self, self.rng.choice(names))
        return [way() for each in range(count)]


# The calls, and beside them what the second way answers.
class Talk:

    def __init__(self):
        self.calls = []
        self.wanted = []
        self.count = 0

    def add(self, call, answer):
        self.count += 1
        self.calls += call
        self.wanted += [len(answer)] + answer

    def begin(self, text):
        self.model = Model(text)
        self.add(begin(text), [0])
        self.given = size(self.model.shapes[0])
        self.out = size(self.model.shapes[-1])
        self.layers = range(len(self.model.kinds))
        self.add(sizes(), [len(self.layers), self.given, self.out] + [len(w) for w in self.model.w])

    def set(self, layer, bits):
        self.model.set(layer, bits)
        self.add(set_own(layer, bits), [0])

    def get_all(self):
        for layer in self.layers:
            self.add(get_own(layer, len(self.model.w[layer])), self.model.get(layer))

    def run(self, bits):
        self.add(run(self.out, bits), self.model.run(bits))

    def train(self, rates, bits, wanted):
        self.add(train(*rates, bits, wanted), self.model.train(*rates, bits, wanted))

    def ease(self, rates, bits, wanted):
        self.add(ease(*rates, bits, wanted), self.model.ease(*rates, bits, wanted))

    def check(self, case):
        before = list(self.calls)
        told = answers(self.calls)
        check_long(case, told, self.wanted)
        case.assertTrue(self.calls == before, "what was handed in has changed")


def size(shape):
    return shape[0] * shape[1] * shape[2]


def rates_of_train(numbers, names):
    return [numbers.rng.choice([to_bits(0.01), to_bits(0.3), numbers.many(names, 1)[0]]),
            numbers.rng.choice([0, SIGN, to_bits(0.9), to_bits(-0.5), numbers.many(names, 1)[0]])]


def rates_of_ease(numbers, names):
    b = [0, SIGN, to_bits(0.9), to_bits(0.99), to_bits(-0.5), numbers.many(names, 1)[0]]
    return [numbers.rng.choice([to_bits(0.01), to_bits(0.3), numbers.many(names, 1)[0]]), numbers.rng.choice(b),
            numbers.rng.choice(b), numbers.rng.choice([to_bits(1e-8), to_bits(0.5), 0, numbers.many(names, 1)[0]])]


def step(talk, numbers, names, kind):
    bits = numbers.many(names, talk.given)
    wanted = numbers.many(names, talk.out)
    if kind == "run":
        talk.run(bits)
    if kind == "train":
        talk.train(rates_of_train(numbers, names), bits, wanted)
    if kind == "ease":
        talk.ease(rates_of_ease(numbers, names), bits, wanted)
    if kind == "set" and len(talk.layers) > 0:
        layer = numbers.rng.choice(talk.layers)
        talk.set(layer, numbers.many(names, len(talk.model.w[layer])))
    talk.get_all()


def set_all(talk, numbers, names):
    for layer in talk.layers:
        talk.set(layer, numbers.many(names, len(talk.model.w[layer])))


def fits(layer, shape):
    return layer != "pool" or (shape[1] % 2 == 0 and shape[2] % 2 == 0)


class ModelTest(unittest.TestCase):

    def test_bits_to_float_and_back(self):
        for bits in (0, SIGN, 1, 0x007FFFFF, 0x00800000, 0x3F800000, 0x7F7FFFFF, 0xFF7FFFFF):
            self.assertEqual(to_bits(to_float(bits)), bits)


class EachLayerTest(unittest.TestCase):

    def check_all(self, names, kinds):
        numbers = Numbers(str(names))
        for shape in SHAPES:
            for layer in LAYERS:
                if fits(layer, shape):
                    talk = Talk()
                    talk.begin("input %d %d %d\n%s" % (shape + (layer,)))
                    set_all(talk, numbers, names)
                    for kind in kinds:
                        step(talk, numbers, names, kind)
                    with self.subTest(shape=shape, layer=layer):
                        talk.check(self)

    def test_ordinary_numbers(self):
        self.check_all(("ordinary",), ("run", "train", "train", "ease", "ease", "train"))

    def test_zeros(self):
        self.check_all(("zero_or_so",), ("run", "train", "ease"))

    def test_small_and_great(self):
        self.check_all(("small", "great"), ("run", "train", "ease"))


class SeveralLayersTest(unittest.TestCase):

    def text(self, rng):
        shape = rng.choice(SHAPES)
        lines = ["input %d %d %d" % shape]
        for each in range(rng.choice((0, 1, 2, 3, 4, 8))):
            layer = rng.choice(LAYERS)
            if fits(layer, shape):
                lines.append(layer)
                shape = Model("\n".join(lines)).shapes[-1]
        return "\n".join(lines)

    def test_many_lists(self):
        numbers = Numbers(7)
        for each in range(150):
            talk = Talk()
            names = numbers.rng.choice((("ordinary",), ("ordinary", "whole"), ("whole", "zero_or_so"), ("zero_or_so",),
                                        ("small",), ("ordinary", "great"), ("any",)))
            for again in range(numbers.rng.choice((1, 1, 2))):
                talk.begin(self.text(numbers.rng))
                set_all(talk, numbers, names)
                for kind in numbers.rng.choices(("run", "train", "ease", "set"), (1, 2, 2, 1), k=5):
                    step(talk, numbers, names, kind)
            with self.subTest(each=each):
                talk.check(self)

    def test_many_steps(self):
        numbers = Numbers(8)
        talk = Talk()
        talk.begin("input 1 4 4\nconv 2 3\nrelu\npool\ndense 3")
        set_all(talk, numbers, ("ordinary",))
        for each in range(60):
            bits = numbers.many(("ordinary",), talk.given)
            wanted = numbers.many(("ordinary",), talk.out)
            talk.train([to_bits(0.01), to_bits(0.9)], bits, wanted)
            talk.ease([to_bits(0.01), to_bits(0.9), to_bits(0.99), to_bits(1e-7)], bits, wanted)
        talk.get_all()
        talk.check(self)


class GreatestTest(unittest.TestCase):

    def check(self, text, kinds, to_set=True):
        numbers = Numbers(text)
        talk = Talk()
        talk.begin(text)
        if to_set:
            set_all(talk, numbers, ("ordinary",))
        for kind in kinds:
            bits = numbers.many(("ordinary",), talk.given)
            wanted = numbers.many(("ordinary",), talk.out)
            if kind == "run":
                talk.run(bits)
            if kind == "train":
                talk.train([to_bits(0.0001), to_bits(0.9)], bits, wanted)
            if kind == "ease":
                talk.ease([to_bits(0.0001), to_bits(0.9), to_bits(0.99), to_bits(1e-7)], bits, wanted)
        talk.get_all()
        self.assertLessEqual(len(talk.calls), 30000)
        talk.check(self)
        return talk

    def test_no_layer(self):
        self.check("input 4096 1 1", ("run", "train", "ease"))
        self.check("input 1 1 4096", ("run", "train", "ease"))

    def test_without_own_numbers(self):
        self.check("input 1 64 64\nrelu\npool\npool\npool\npool\npool\npool\nrelu", ("run", "train", "ease"))

    def test_the_greatest_window_over_the_most_numbers(self):
        self.check("input 1 64 64\nconv 1 5", ("run", "train"))

    def test_eight_layers_over_the_most_numbers(self):
        self.check("input 1 64 64" + "\nconv 1 3" * 8, ("train",))

    def test_the_most_own_numbers(self):
        talk = self.check("input 15 1 1\ndense 4096", ("train", "ease", "run"), to_set=False)
        self.assertEqual(len(talk.model.w[0]), 65536)
        talk = self.check("input 7 2 2\nconv 1024 3", ("train", "run"), to_set=False)
        self.assertEqual(len(talk.model.w[0]), 65536)

    def test_the_longest_sums(self):
        self.check("input 4096 1 1\ndense 5", ("train",))

    def test_as_many_calls_as_may_be(self):
        numbers = Numbers(9)
        talk = Talk()
        talk.begin("input 1 2 2\nconv 1 3\npool\ndense 2")
        set_all(talk, numbers, ("ordinary",))
        while talk.count < 297:
            step(talk, numbers, ("ordinary",), numbers.rng.choice(("run", "train", "ease")))
        self.assertLessEqual(talk.count, 300)
        talk.check(self)


if __name__ == "__main__":
    unittest.main()
