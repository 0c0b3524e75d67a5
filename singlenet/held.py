"""The calls on one object, and what each answers."""

from singlenet.layout import NotANet, read_net
from singlenet.single import NotFinite, is_finite
from singlenet.training import Lesson, ease_step, train_step

BEGIN = 0
SIZES = 1
SET = 2
GET = 3
RUN = 4
TRAIN = 5
EASE = 6

DONE = 0
WRONG_COUNT = -2
WRONG_VALUE = -3
FAILED = -4
NO_NET = -9

MOST_BYTES = 4096


class UnknownCall(ValueError):
    pass


def answers(calls):
    reader = Reader(calls)
    held = Held()
    told = []
    while not reader.at_end():
        answer = answer_call(held, reader)
        told.append(len(answer))
        told.extend(answer)
    return told


def answer_call(held, reader):
    call = reader.take_number()
    if call == BEGIN:
        return held.begin(reader.take_row())
    if call == SIZES:
        return held.sizes_told()
    if call == SET:
        layer = reader.take_number()
        return held.set_own(layer, reader.take_row())
    if call == GET:
        layer = reader.take_number()
        return held.get_own(layer, reader.take_number())
    if call == RUN:
        out_count = reader.take_number()
        return held.run(out_count, reader.take_row())
    if call == TRAIN:
        rates = reader.take_numbers(2)
        numbers = reader.take_row()
        return held.train(rates, numbers, reader.take_row())
    if call == EASE:
        rates = reader.take_numbers(4)
        numbers = reader.take_row()
        return held.ease(rates, numbers, reader.take_row())
    raise UnknownCall(f"no call has the number {call}")


class Reader:

    def __init__(self, calls):
        self.calls = calls
        self.place = 0

    def at_end(self):
        return self.place >= len(self.calls)

    def take_number(self):
        number = self.calls[self.place]
        self.place += 1
        return number

    # A slice is a copy, so what is kept of a row is never the caller's own list.
    def take_numbers(self, count):
        start = self.place
        self.place += count
        return self.calls[start:self.place]

    def take_row(self):
        return self.take_numbers(self.take_number())


class Held:

    def __init__(self):
        self.net = None

    def begin(self, text):
        # A begin that is refused leaves no net, not the former one.
        self.net = None
        if len(text) > MOST_BYTES:
            return [WRONG_COUNT]
        try:
            self.net = read_net(text)
        except NotANet:
            return [WRONG_VALUE]
        return [DONE]

    def sizes_told(self):
        if self.net is None:
            return [NO_NET]
        return self.net.sizes()

    def set_own(self, layer, numbers):
        if self.net is None:
            return [NO_NET]
        if not self.net.has_own(layer, len(numbers)):
            return [WRONG_COUNT]
        if not are_finite(numbers):
            return [WRONG_VALUE]
        self.net.set_own(layer, numbers)
        return [DONE]

    def get_own(self, layer, count):
        if self.net is None:
            return [NO_NET]
        if not self.net.has_own(layer, count):
            return [WRONG_COUNT]
        return [DONE] + self.net.own[layer]

    def run(self, out_count, numbers):
        refusal = self.refusal(len(numbers), out_count, numbers)
        if refusal != DONE:
            return [refusal]
        try:
            return [DONE] + self.net.stages(numbers)[-1]
        except NotFinite:
            return [FAILED]

    def train(self, rates, numbers, wanted):
        return self.learn(train_step, rates, numbers, wanted)

    def ease(self, rates, numbers, wanted):
        return self.learn(ease_step, rates, numbers, wanted)

    def learn(self, step, rates, numbers, wanted):
        refusal = self.refusal(len(numbers), len(wanted), rates + numbers + wanted)
        if refusal != DONE:
            return [refusal]
        try:
            lesson = Lesson(self.net, numbers, wanted)
            step(self.net, lesson, rates)
        except NotFinite:
            return [FAILED]
        return [DONE, lesson.error]

    def refusal(self, given_count, out_count, singles):
        if self.net is None:
            return NO_NET
        if given_count != self.net.given.size() or out_count != self.net.comes_out().size():
            return WRONG_COUNT
        if not are_finite(singles):
            return WRONG_VALUE
        return DONE


def are_finite(singles):
    return all([is_finite(single) for single in singles])
