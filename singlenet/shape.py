"""How numbers lie: planes of rows of columns, one behind another, columns fastest."""


class Shape:

    def __init__(self, planes, rows, columns):
        self.planes = planes
        self.rows = rows
        self.columns = columns

    def plane_size(self):
        return self.rows * self.columns

    def size(self):
        return self.planes * self.plane_size()


# Some rows and columns of every plane; bottom and right are the first ones behind.
class Box:

    def __init__(self, top, bottom, left, right):
        self.top = top
        self.bottom = bottom
        self.left = left
        self.right = right

    def moved(self, down, aside):
        return Box(self.top + down, self.bottom + down, self.left + aside, self.right + aside)


def cut(numbers, shape, box):
    taken = []
    for plane in range(shape.planes):
        for row in range(box.top, box.bottom):
            start = (plane * shape.rows + row) * shape.columns
            taken.extend(numbers[start + box.left:start + box.right])
    return taken


# Parts of the same length, one behind another.
def parts(numbers, length):
    return [numbers[start:start + length] for start in range(0, len(numbers), length)]


def joined(lists):
    whole = []
    for part in lists:
        whole.extend(part)
    return whole


# A plane turned half round, within its rows and columns, has its numbers the other way round.
def turned(numbers, shape):
    return joined([plane[::-1] for plane in parts(numbers, shape.plane_size())])
