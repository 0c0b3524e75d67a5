"""Call lists for the tests, and answers taken apart call by call."""

from singlenet.held import answers


def begin(text):
    if isinstance(text, str):
        text = list(text.encode("latin-1"))
    return [0, len(text)] + list(text)


def sizes():
    return [1]


def set_own(layer, numbers):
    return [2, layer, len(numbers)] + list(numbers)


def get_own(layer, n):
    return [3, layer, n]


def flat(calls):
    return [number for call in calls for number in call]


def take_apart(told):
    parts = []
    place = 0
    while place < len(told):
        end = place + 1 + told[place]
        if told[place] < 1 or end > len(told):
            raise AssertionError("a count that doesn't fit at %d: %r" % (place, told[:50]))
        parts.append(told[place + 1:end])
        place = end
    return parts


def ask(*calls):
    return take_apart(answers(flat(calls)))


# unittest's own comparison writes out how two lists differ, which takes hours for long ones.
def check_long(case, told, wanted):
    case.assertEqual(len(told), len(wanted))
    case.assertTrue(told == wanted, "as many numbers, but others")
