"""Call lists for the tests, and answers taken apart call by call."""

import struct

from singlenet.held import answers


def begin(text):
    if isinstance(text, str):
        text = list(text.encode("latin-1"))
    return [0, len(text)] + list(text)


def sizes():
    return [1]


def set_own(layer, numbers):
    return [2, layer, len(numbers)] + list(numbers)


def get_own(layer, n):
    return [3, layer, n]


def flat(calls):
    return [number for call in calls for number in call]


def take_apart(told):
    parts = []
    place = 0
    while place < len(told):
        end = place + 1 + told[place]
        if told[place] < 1 or end > len(told):
            raise AssertionError("a count that doesn't fit at %d: %r" % (place, told[:50]))
        parts.append(told[place + 1:end])
        place = end
    return parts


def ask(*calls):
    return take_apart(answers(flat(calls)))


# unittest's own comparison writes out how two lists differ, which takes hours for long ones.
def check_long(case, told, wanted):
    case.assertEqual(len(told), len(wanted))
    case.assertTrue(told == wanted, "as many numbers, but others")


def run(m, numbers):
    return [4, m, len(numbers)] + list(numbers)


def train(rate, mu, numbers, wanted):
    return [5, rate, mu, len(numbers)] + list(numbers) + [len(wanted)] + list(wanted)


def ease(rate, b1, b2, eps, numbers, wanted):
    return [6, rate, b1, b2, eps, len(numbers)] + list(numbers) + [len(wanted)] + list(wanted)


# The bits of numbers that are singles as they stand.
def singles(*numbers):
    bits = [struct.unpack("<I", struct.pack("<f", number))[0] for number in numbers]
    for number, back in zip(numbers, bits):
        if struct.unpack("<f", struct.pack("<I", back))[0] != number:
            raise AssertionError("%r is no single" % number)
    return bits


def single(number):
    return singles(number)[0]
