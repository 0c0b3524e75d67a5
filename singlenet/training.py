"""A net's own numbers, changed a step at a time by what comes out and what's wanted."""

from singlenet.single import ONE, PLUS_ZERO, minus, over, plus, root, times
from singlenet.sums import row_sums


# The error, and of each layer the g of its own numbers.
class Lesson:

    def __init__(self, net, numbers, wanted):
        stages = net.stages(numbers)
        d = [minus(out, aim) for out, aim in zip(stages[-1], wanted)]
        self.error = row_sums([PLUS_ZERO], d, d)[0]
        self.own_g = taken_back(net, stages, [plus(each, each) for each in d])


# The g of the first layer's input is made too, though nothing is changed by it: it has to be finite.
def taken_back(net, stages, out_g):
    g = out_g
    own_g = []
    for number in range(len(net.layers) - 1, -1, -1):
        layer = net.layers[number]
        own_g.append(layer.own_back(stages[number], g))
        g = layer.given_back(net.own[number], stages[number], g)
    return own_g[::-1]


# Both steps reckon all ahead of the first change: when some of it isn't finite, nothing has changed.
def train_step(net, lesson, rates):
    rate = rates[0]
    mu = rates[1]
    new_v = []
    new_own = []
    for number, own_g in enumerate(lesson.own_g):
        v_then = [minus(times(mu, v), times(rate, g)) for v, g in zip(net.v[number], own_g)]
        new_v.append(v_then)
        new_own.append([plus(w, v) for w, v in zip(net.own[number], v_then)])
    net.v = new_v
    net.own = new_own


def ease_step(net, lesson, rates):
    rate = rates[0]
    eps = rates[3]
    new_m = []
    new_s = []
    new_own = []
    for number, own_g in enumerate(lesson.own_g):
        m_then = mixed(rates[1], net.m[number], own_g)
        s_then = mixed(rates[2], net.s[number], [times(g, g) for g in own_g])
        new_m.append(m_then)
        new_s.append(s_then)
        new_own.append([eased(w, m, s, rate, eps) for w, m, s in zip(net.own[number], m_then, s_then)])
    net.m = new_m
    net.s = new_s
    net.own = new_own


def mixed(b, before, added):
    rest = minus(ONE, b)
    return [plus(times(b, old), times(rest, new)) for old, new in zip(before, added)]


def eased(w, m, s, rate, eps):
    return minus(w, over(times(rate, m), plus(root(s), eps)))
