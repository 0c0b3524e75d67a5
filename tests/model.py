"""A second way of reckoning nets: by Python's floats, each result rounded to a single at once, straight from the words.

A float has 53 bits, more than twice the 24 of a single and two more: a sum, a product, a quotient or a root
rounded to a float and then to a single is the same as rounded to a single at once. (Of quotients that holds where
they have all 24 bits; tests/exact.py has none of this.)
"""

import math
import struct


class Fails(Exception):
    pass


def single(x):
    try:
        y = struct.unpack("<f", struct.pack("<f", x))[0]
    except OverflowError:
        raise Fails()
    if math.isinf(y) or math.isnan(y):
        raise Fails()
    return y


def to_float(bits):
    return struct.unpack("<f", struct.pack("<I", bits))[0]


def to_bits(x):
    return struct.unpack("<I", struct.pack("<f", x))[0]


def add(x, y):
    return single(x + y)


def mul(x, y):
    return single(x * y)


def div(x, y):
    if y == 0:
        raise Fails()
    return single(x / y)


def sqrt(x):
    if x < 0:
        raise Fails()
    return single(math.sqrt(x))


class Model:

    def __init__(self, text):
        lines = text.split("\n")
        self.given = tuple(int(word) for word in lines[0].split()[1:])
        self.kinds = []
        shape = self.given
        self.shapes = [shape]
        self.w = []
        for line in lines[1:]:
            words = line.split()
            P, R, C = shape
            count = 0
            if words[0] == "conv":
                N, S = int(words[1]), int(words[2])
                shape = (N, R, C)
                count = N * P * S * S + N
            if words[0] == "dense":
                N = int(words[1])
                shape = (N, 1, 1)
                count = N * P * R * C + N
            if words[0] == "pool":
                shape = (P, R // 2, C // 2)
            self.kinds.append(words)
            self.shapes.append(shape)
            self.w.append([0.0] * count)
        self.v = [[0.0] * len(w) for w in self.w]
        self.m = [[0.0] * len(w) for w in self.w]
        self.s = [[0.0] * len(w) for w in self.w]

    def set(self, layer, bits):
        self.w[layer] = [to_float(b) for b in bits]
        for kept in (self.v, self.m, self.s):
            kept[layer] = [0.0] * len(bits)

    def get(self, layer):
        return [0] + [to_bits(w) for w in self.w[layer]]

    def made(self, layer, given):
        words = self.kinds[layer]
        P, R, C = self.shapes[layer]
        w = self.w[layer]
        out = []
        if words[0] == "relu":
            return [x if x > 0 else 0.0 for x in given]
        if words[0] == "pool":
            return [given[k] for k in self.taken(layer, given)]
        if words[0] == "dense":
            N = int(words[1])
            for n in range(N):
                total = w[N * len(given) + n]
                for k in range(len(given)):
                    total = add(total, mul(w[n * len(given) + k], given[k]))
                out.append(total)
            return out
        N, S = int(words[1]), int(words[2])
        for n in range(N):
            for y in range(R):
                for x in range(C):
                    total = w[N * P * S * S + n]
                    for p in range(P):
                        for i in range(S):
                            for j in range(S):
                                yy, xx = y + i - S // 2, x + j - S // 2
                                if 0 <= yy < R and 0 <= xx < C:
                                    weight = w[((n * P + p) * S + i) * S + j]
                                    total = add(total, mul(weight, given[(p * R + yy) * C + xx]))
                    out.append(total)
        return out

    def taken(self, layer, given):
        P, R, C = self.shapes[layer]
        places = []
        for p in range(P):
            for y in range(0, R, 2):
                for x in range(0, C, 2):
                    four = [(p * R + y + a) * C + x + b for a in (0, 1) for b in (0, 1)]
                    places.append(max(four, key=lambda k: given[k]))
        return places

    def stages(self, bits):
        stages = [[to_float(b) for b in bits]]
        for layer in range(len(self.kinds)):
            stages.append(self.made(layer, stages[-1]))
        return stages

    def run(self, bits):
        try:
            return [0] + [to_bits(x) for x in self.stages(bits)[-1]]
        except Fails:
            return [-4]

    def back(self, layer, given, g):
        words = self.kinds[layer]
        P, R, C = self.shapes[layer]
        w = self.w[layer]
        if words[0] == "relu":
            return [], [b if a > 0 else 0.0 for a, b in zip(given, g)]
        if words[0] == "pool":
            back = [0.0] * len(given)
            for k, place in enumerate(self.taken(layer, given)):
                back[place] = g[k]
            return [], back
        if words[0] == "dense":
            own = [mul(b, a) for b in g for a in given] + list(g)
            back = []
            for k in range(len(given)):
                total = 0.0
                for n in range(len(g)):
                    total = add(total, mul(g[n], w[n * len(given) + k]))
                back.append(total)
            return own, back
        return self.conv_own(layer, given, g), self.conv_back(layer, g)

    def conv_own(self, layer, given, g):
        P, R, C = self.shapes[layer]
        N, S = int(self.kinds[layer][1]), int(self.kinds[layer][2])
        own = []
        for n in range(N):
            for p in range(P):
                for i in range(S):
                    for j in range(S):
                        total = 0.0
                        for y in range(R):
                            for x in range(C):
                                yy, xx = y + i - S // 2, x + j - S // 2
                                if 0 <= yy < R and 0 <= xx < C:
                                    total = add(total, mul(g[(n * R + y) * C + x], given[(p * R + yy) * C + xx]))
                        own.append(total)
        for n in range(N):
            total = 0.0
            for k in range(R * C):
                total = add(total, mul(g[n * R * C + k], 1.0))
            own.append(total)
        return own

    def conv_back(self, layer, g):
        P, R, C = self.shapes[layer]
        N, S = int(self.kinds[layer][1]), int(self.kinds[layer][2])
        w = self.w[layer]
        back = []
        for p in range(P):
            for y in range(R):
                for x in range(C):
                    total = 0.0
                    for n in range(N):
                        for i in range(S):
                            for j in range(S):
                                yy, xx = y - i + S // 2, x - j + S // 2
                                if 0 <= yy < R and 0 <= xx < C:
                                    weight = w[((n * P + p) * S + i) * S + j]
                                    total = add(total, mul(g[(n * R + yy) * C + xx], weight))
                    back.append(total)
        return back

    # The error, and the g of each layer's own numbers.
    def lesson(self, bits, wanted):
        stages = self.stages(bits)
        d = [add(a, -to_float(b)) for a, b in zip(stages[-1], wanted)]
        error = 0.0
        for each in d:
            error = add(error, mul(each, each))
        g = [add(each, each) for each in d]
        own = []
        for layer in reversed(range(len(self.kinds))):
            mine, g = self.back(layer, stages[layer], g)
            own.insert(0, mine)
        return error, own

    def train(self, rate, mu, bits, wanted):
        rate, mu = to_float(rate), to_float(mu)
        try:
            error, own = self.lesson(bits, wanted)
            new_v = [[add(mul(mu, v), -mul(rate, g)) for v, g in zip(vs, gs)] for vs, gs in zip(self.v, own)]
            new_w = [[add(w, v) for w, v in zip(ws, vs)] for ws, vs in zip(self.w, new_v)]
        except Fails:
            return [-4]
        self.v, self.w = new_v, new_w
        return [0, to_bits(error)]

    def ease(self, rate, b1, b2, eps, bits, wanted):
        rate, b1, b2, eps = to_float(rate), to_float(b1), to_float(b2), to_float(eps)
        try:
            error, own = self.lesson(bits, wanted)
            new_m, new_s, new_w = [], [], []
            for layer, gs in enumerate(own):
                new_m.append([add(mul(b1, m), mul(add(1.0, -b1), g)) for m, g in zip(self.m[layer], gs)])
                new_s.append([add(mul(b2, s), mul(add(1.0, -b2), mul(g, g))) for s, g in zip(self.s[layer], gs)])
                new_w.append([add(w, -div(mul(rate, m), add(sqrt(s), eps)))
                              for w, m, s in zip(self.w[layer], new_m[-1], new_s[-1])])
        except Fails:
            return [-4]
        self.m, self.s, self.w = new_m, new_s, new_w
        return [0, to_bits(error)]
