"""The calls on one object, and what each answers."""

from singlenet.layout import NotANet, read_net
from singlenet.single import is_finite

BEGIN = 0
SIZES = 1
SET = 2
GET = 3

DONE = 0
WRONG_COUNT = -2
WRONG_VALUE = -3
NO_NET = -9

MOST_BYTES = 4096


class UnknownCall(ValueError):
    pass


def answers(calls):
    reader = Reader(calls)
    held = Held()
    told = []
    while not reader.at_end():
        answer = answer_call(held, reader)
        told.append(len(answer))
        told.extend(answer)
    return told


def answer_call(held, reader):
    call = reader.take_number()
    if call == BEGIN:
        return held.begin(reader.take_row())
    if call == SIZES:
        return held.sizes_told()
    if call == SET:
        layer = reader.take_number()
        return held.set_own(layer, reader.take_row())
    if call == GET:
        layer = reader.take_number()
        return held.get_own(layer, reader.take_number())
    raise UnknownCall(f"no call has the number {call}")


class Reader:

    def __init__(self, calls):
        self.calls = calls
        self.place = 0

    def at_end(self):
        return self.place >= len(self.calls)

    def take_number(self):
        number = self.calls[self.place]
        self.place += 1
        return number

    # A slice is a copy, so what is kept of a row is never the caller's own list.
    def take_row(self):
        count = self.take_number()
        start = self.place
        self.place += count
        return self.calls[start:self.place]


class Held:

    def __init__(self):
        self.net = None

    def begin(self, text):
        # A begin that is refused leaves no net, not the former one.
        self.net = None
        if len(text) > MOST_BYTES:
            return [WRONG_COUNT]
        try:
            self.net = read_net(text)
        except NotANet:
            return [WRONG_VALUE]
        return [DONE]

    def sizes_told(self):
        if self.net is None:
            return [NO_NET]
        return self.net.sizes()

    def set_own(self, layer, numbers):
        if self.net is None:
            return [NO_NET]
        if not self.net.has_own(layer, len(numbers)):
            return [WRONG_COUNT]
        if not all([is_finite(number) for number in numbers]):
            return [WRONG_VALUE]
        self.net.own[layer] = numbers
        return [DONE]

    def get_own(self, layer, count):
        if self.net is None:
            return [NO_NET]
        if not self.net.has_own(layer, count):
            return [WRONG_COUNT]
        return [DONE] + self.net.own[layer]
