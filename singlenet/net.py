"""A net: how its layers are laid out, and the numbers that are their own."""

from singlenet.single import PLUS_ZERO


class Shape:

    def __init__(self, planes, rows, columns):
        self.planes = planes
        self.rows = rows
        self.columns = columns

    def size(self):
        return self.planes * self.rows * self.columns


# A layer tells how many numbers are its own but doesn't hold them:
# a text that asks for far too many is refused before any room is taken.
class Layer:

    def __init__(self, made, own_count):
        self.made = made
        self.own_count = own_count


class Net:

    def __init__(self, given, layers):
        self.given = given
        self.layers = layers
        self.own = [[PLUS_ZERO] * layer.own_count for layer in layers]

    def comes_out(self):
        if len(self.layers) == 0:
            return self.given
        return self.layers[-1].made

    def has_own(self, layer, count):
        # Asked ahead of any index, as -1 would be Python's last layer.
        if layer < 0 or layer >= len(self.layers):
            return False
        return self.layers[layer].own_count == count

    def sizes(self):
        totals = [len(self.layers), self.given.size(), self.comes_out().size()]
        return totals + [layer.own_count for layer in self.layers]
