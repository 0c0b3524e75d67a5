"""What all layers have, and the layers that have no windows."""

from singlenet.shape import Shape
from singlenet.single import PLUS_ZERO, is_above_zero, times, to_units
from singlenet.sums import column_sums, row_sums


# A layer tells how many numbers are its own but doesn't hold them:
# a text that asks for far too many is refused before any room is taken.
#
# make: what it makes of the numbers given. own_back and given_back: the g of its own numbers, and of those given,
# by the numbers given and the g of what it made.
class Layer:

    def __init__(self, given, made, own_count):
        self.given = given
        self.made = made
        self.own_count = own_count

    def own_back(self, numbers, g):
        return []


class Dense(Layer):

    def __init__(self, given, planes):
        Layer.__init__(self, given, Shape(planes, 1, 1), planes * given.size() + planes)

    def make(self, own, numbers):
        weight_count = self.own_count - self.made.planes
        return row_sums(own[weight_count:], own[:weight_count], numbers)

    def own_back(self, numbers, g):
        weights = []
        for made in g:
            weights.extend([times(made, number) for number in numbers])
        return weights + g

    def given_back(self, own, numbers, g):
        weight_count = self.own_count - self.made.planes
        return column_sums([PLUS_ZERO] * len(numbers), own[:weight_count], g)


class Relu(Layer):

    def __init__(self, given):
        Layer.__init__(self, given, given, 0)

    def make(self, own, numbers):
        return [number if is_above_zero(number) else PLUS_ZERO for number in numbers]

    def given_back(self, own, numbers, g):
        return [made if is_above_zero(number) else PLUS_ZERO for made, number in zip(g, numbers)]


class Pool(Layer):

    def __init__(self, given):
        Layer.__init__(self, given, Shape(given.planes, given.rows // 2, given.columns // 2), 0)

    def make(self, own, numbers):
        return [numbers[place] for place in self.taken_places(numbers)]

    def given_back(self, own, numbers, g):
        back = [PLUS_ZERO] * len(numbers)
        for made, place in zip(g, self.taken_places(numbers)):
            back[place] = made
        return back

    # Rows are even, so two of them, one below the other, are of one plane: all planes are one high one.
    def taken_places(self, numbers):
        columns = self.given.columns
        places = []
        for top in range(0, len(numbers), columns + columns):
            for place in range(top, top + columns, 2):
                four = (place, place + 1, place + columns, place + columns + 1)
                places.append(first_greatest(numbers, four))
        return places


# In units, 0 and -0 are alike.
def first_greatest(numbers, places):
    best = places[0]
    for place in places:
        if to_units(numbers[place]) > to_units(numbers[best]):
            best = place
    return best
