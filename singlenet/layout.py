"""The text of a net, read."""

from singlenet.conv import Conv
from singlenet.layer import Dense, Pool, Relu
from singlenet.net import Net
from singlenet.shape import Shape

SIGNS = "\n 0123456789abcdefghijklmnopqrstuvwxyz"
FIRST_WORD = "input "
MOST_DIGITS = 4
WINDOWS = (1, 3, 5)
MOST_LAYERS = 8
MOST_MADE = 4096
MOST_OWN = 65536


class NotANet(ValueError):
    pass


def read_net(text):
    lines = split_lines(text)
    if len(lines) > 1 + MOST_LAYERS:
        raise NotANet("too many layers")
    given = read_given(lines[0])
    return Net(given, read_layers(lines[1:], given))


def split_lines(text):
    lines = to_signs(text).split("\n")
    # A newline behind the last line ends it and begins no other; a text of one newline is an empty line.
    if len(lines) > 1 and lines[-1] == "":
        return lines[:-1]
    return lines


# With no signs but these left, what Python takes for a digit is one of the ten.
def to_signs(text):
    signs = dict([(ord(sign), sign) for sign in SIGNS])
    for byte in text:
        if byte not in signs:
            raise NotANet("a byte that stands in no net")
    return "".join([signs[byte] for byte in text])


def read_given(line):
    if not line.startswith(FIRST_WORD):
        raise NotANet("the first line doesn't tell what is given")
    words = line.split(" ")
    if len(words) != 4:
        raise NotANet("what is given has planes, rows and columns")
    given = Shape(read_number(words[1]), read_number(words[2]), read_number(words[3]))
    check_size(given)
    return given


def read_layers(lines, given):
    layers = []
    shape = given
    room = MOST_OWN
    for line in lines:
        layer = read_layer(line.split(" "), shape)
        check_size(layer.made)
        if layer.own_count > room:
            raise NotANet("too many own numbers")
        room -= layer.own_count
        layers.append(layer)
        shape = layer.made
    return layers


def read_layer(words, shape):
    if words[0] == "conv" and len(words) == 3:
        return conv_layer(read_number(words[1]), read_number(words[2]), shape)
    if words[0] == "dense" and len(words) == 2:
        return Dense(shape, read_number(words[1]))
    if words == ["relu"]:
        return Relu(shape)
    if words == ["pool"]:
        return pool_layer(shape)
    raise NotANet("a line that is no layer")


def conv_layer(planes, window, shape):
    if window not in WINDOWS:
        raise NotANet("a window of another size")
    return Conv(shape, planes, window)


def pool_layer(shape):
    if shape.rows % 2 != 0 or shape.columns % 2 != 0:
        raise NotANet("pool over odd rows or columns")
    return Pool(shape)


def read_number(word):
    if not word.isdigit() or len(word) > MOST_DIGITS or word.startswith("0"):
        raise NotANet("a word that is no number")
    return int(word)


def check_size(shape):
    if shape.size() > MOST_MADE:
        raise NotANet("too many numbers given or made")
