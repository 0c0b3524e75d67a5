"""A net: how its layers are laid out, and the numbers that are their own."""

from singlenet.single import PLUS_ZERO


# v, m and s belong to each of the layers' own numbers: v is kept by train, m and s are kept by ease.
class Net:

    def __init__(self, given, layers):
        self.given = given
        self.layers = layers
        self.own = [zeros(layer) for layer in layers]
        self.v = [zeros(layer) for layer in layers]
        self.m = [zeros(layer) for layer in layers]
        self.s = [zeros(layer) for layer in layers]

    def comes_out(self):
        if len(self.layers) == 0:
            return self.given
        return self.layers[-1].made

    def has_own(self, layer, count):
        # Asked ahead of any index, as -1 would be Python's last layer.
        if layer < 0 or layer >= len(self.layers):
            return False
        return self.layers[layer].own_count == count

    def sizes(self):
        totals = [len(self.layers), self.given.size(), self.comes_out().size()]
        return totals + [layer.own_count for layer in self.layers]

    def set_own(self, layer, numbers):
        self.own[layer] = numbers
        self.v[layer] = zeros(self.layers[layer])
        self.m[layer] = zeros(self.layers[layer])
        self.s[layer] = zeros(self.layers[layer])

    # What's given to each layer, in order, and behind them what comes out.
    def stages(self, numbers):
        stages = [numbers]
        for layer, own in zip(self.layers, self.own):
            stages.append(layer.make(own, stages[-1]))
        return stages


def zeros(layer):
    return [PLUS_ZERO] * layer.own_count
