"""The layer that slides windows over planes."""

from singlenet.layer import Layer
from singlenet.shape import Box, Shape, cut, joined, parts, turned
from singlenet.single import ONE, PLUS_ZERO
from singlenet.sums import Sums, row_sums


class Conv(Layer):

    def __init__(self, given, planes, window):
        self.window = window
        self.half = window // 2
        self.weights = Shape(given.planes, window, window)
        made = Shape(planes, given.rows, given.columns)
        Layer.__init__(self, given, made, planes * self.weights.size() + planes)

    def make(self, own, numbers):
        weight_count = self.own_count - self.made.planes
        sums = Sums(own[weight_count:], own[:weight_count], numbers)
        return sums.in_singles(self.slide(sums))

    def slide(self, sums):
        weights = parts(sums.left, self.weights.size())
        made = [[] for start in sums.starts]
        known = {}
        for y in range(self.given.rows):
            for x in range(self.given.columns):
                box = self.inside(y, x, self.window, self.window)
                numbers = cut(sums.right, self.given, box.moved(y - self.half, x - self.half))
                # Away from the edges all boxes are alike, so the weights within are cut but once.
                edges = (box.top, box.bottom, box.left, box.right)
                if edges not in known:
                    known[edges] = [cut(part, self.weights, box) for part in weights]
                for plane, start in enumerate(sums.starts):
                    made[plane].append(sums.add_up(start, known[edges][plane], numbers))
        return joined(made)

    # What is at y + i - half, x + j - half has to be in the plane. y, x and i, j stand alike in this, so it is told
    # of a place made which places of the window are inside, or of a place of the window for which places made it is.
    def inside(self, y, x, rows, columns):
        top = max(0, self.half - y)
        left = max(0, self.half - x)
        bottom = min(rows, self.given.rows + self.half - y)
        right = min(columns, self.given.columns + self.half - x)
        # In planes smaller than the window there may be none at all.
        return Box(top, max(top, bottom), left, max(left, right))

    def own_back(self, numbers, g):
        ones = [ONE] * self.made.plane_size()
        return self.weights_back(numbers, g) + row_sums([PLUS_ZERO] * self.made.planes, g, ones)

    def weights_back(self, numbers, g):
        sums = Sums([PLUS_ZERO], g, numbers)
        plane = Shape(1, self.given.rows, self.given.columns)
        totals = [[] for pair in range(self.made.planes * self.given.planes)]
        for i in range(self.window):
            for j in range(self.window):
                box = self.inside(i, j, plane.rows, plane.columns)
                given_box = box.moved(i - self.half, j - self.half)
                made = [cut(part, plane, box) for part in parts(sums.left, plane.size())]
                given = [cut(part, plane, given_box) for part in parts(sums.right, plane.size())]
                for pair in range(len(totals)):
                    left = made[pair // self.given.planes]
                    totals[pair].append(sums.add_up(sums.starts[0], left, given[pair % self.given.planes]))
        return sums.in_singles(joined(totals))

    # Seen from a plane's other end, y - i + half, x - j + half is y + i - half, x + j - half. So, with all planes
    # turned half round, this is what a layer makes that leads by the same windows from the planes made to those given.
    def given_back(self, own, numbers, g):
        back = Conv(self.made, self.given.planes, self.window)
        starts = [PLUS_ZERO] * self.given.planes
        return turned(back.make(self.swapped(own) + starts, turned(g, self.made)), self.given)

    # The weights by plane given, plane made.
    def swapped(self, own):
        weight_count = self.own_count - self.made.planes
        windows = parts(own[:weight_count], self.window * self.window)
        return joined([joined(windows[plane::self.given.planes]) for plane in range(self.given.planes)])
