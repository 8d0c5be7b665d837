"""A second, plain working out of what a text means, held against `run` on many small texts.

Nothing goes on here, and nothing is kept but answers: the value of an expression at an instant is asked for by
its words, and asks for the values that it needs, at this instant or at earlier ones. Truth values are Python's.
"""

import random
import unittest

from helper import bytes_of
from instants.streams import run
from test_second_reading import Trees, Writer, scan, written

ENDS = (-2147483648, -2147483647, -1, 0, 1, 2, 2147483646, 2147483647)


def number(value):
    while value > 2147483647:
        value -= 4294967296 * ((value + 2147483648) // 4294967296)
    while value < -2147483648:
        value += 4294967296 * ((2147483647 - value) // 4294967296)
    return value


def quotient(left, right):
    if right == 0:
        return 0
    whole = abs(left) // abs(right)
    return number(whole if (left < 0) == (right < 0) else -whole)


BETWEEN = {
    "+": lambda a, b: number(a + b),
    "-": lambda a, b: number(a - b),
    "*": lambda a, b: number(a * b),
    "/": quotient,
    "mod": lambda a, b: 0 if b == 0 else a - b * (quotient(a, b) if b != -1 else -a),
    "=": lambda a, b: a == b,
    "<>": lambda a, b: a != b,
    "<": lambda a, b: a < b,
    "<=": lambda a, b: a <= b,
    ">": lambda a, b: a > b,
    ">=": lambda a, b: a >= b,
    "and": lambda a, b: a and b,
    "or": lambda a, b: a or b,
    "xor": lambda a, b: a is not b,
    "=>": lambda a, b: not a or b,
}


class Instance:
    """An instance of a node since it began; `given` tells what it's given at each of its instants, from 0."""

    def __init__(self, nodes, node, given):
        self.nodes = nodes
        self.node = node
        self.given = given
        self.known = {}
        self.instances = {}

    def outputs(self, t):
        return [self.named(name, t) for name, _, _ in self.node["outputs"]]

    def named(self, name, t):
        inputs = [other for other, _, _ in self.node["inputs"]]
        if name in inputs:
            return self.given(t)[inputs.index(name)]
        for lefts, _, tree in self.node["equations"]:
            names = [token[2] for token in lefts]
            if name in names:
                return self.values(tree, t)[names.index(name)]
        raise AssertionError(name)

    def values(self, tree, t):
        key = (id(tree), t)
        if key not in self.known:
            self.known[key] = self.called(tree, t) if tree[0] == "call" else [self.made(tree, t)]
        return self.known[key]

    def value(self, tree, t):
        return self.values(tree, t)[0]

    def made(self, tree, t):
        what, _, parts, more = tree
        if what == "number":
            return int(more)
        if what in ("true", "false"):
            return what == "true"
        if what == "name":
            return self.named(more, t)
        if what == "if":
            return self.value(parts[1] if self.value(parts[0], t) else parts[2], t)
        if what == "->":
            return self.value(parts[0] if t == 0 else parts[1], t)
        if what == "fby":
            return self.value(parts[0], 0) if t == 0 else self.value(parts[1], t - 1)
        if what == "pre":
            if t == 0:
                raise AssertionError("a value is asked for that isn't there")
            return self.value(parts[0], t - 1)
        given = [self.value(part, t) for part in parts]
        if what == "not":
            return not given[0]
        if len(given) == 1:
            return number(-given[0])
        return BETWEEN[what](*given)

    def called(self, tree, t):
        _, _, parts, (name, way, firsts) = tree
        every = parts[-1] if way else None
        parts = parts[:-1] if way else parts
        # The instants at which the instance went on, since it last began.
        times = list(range(t + 1))
        if way == "activate":
            times = [s for s in times if self.value(every, s)]
        if way == "reset":
            times = list(range(max(s for s in times if s == 0 or self.value(every, s)), t + 1))
        if not times:
            return [value for _, value in firsts]
        key = (id(tree), times[0])
        if key not in self.instances:
            held = []
            node = [other for other in self.nodes if other["name"][2] == name][0]
            instance = Instance(self.nodes, node, lambda k: [self.value(part, held[k]) for part in parts])
            self.instances[key] = (instance, held)
        instance, held = self.instances[key]
        held.extend(times[len(held):])
        return instance.outputs(len(times) - 1)


def told(nodes, node, steps, given):
    width = len(node["inputs"])
    kinds = [kind for _, _, kind in node["inputs"]]

    def given_at(t):
        row = given[t * width:t * width + width]
        return [value == 1 if kind == "bool" else value for kind, value in zip(kinds, row)]

    instance = Instance(nodes, node, given_at)
    return [steps] + [int(value) for t in range(steps) for value in instance.outputs(t)]


class CallWriter(Writer):
    """More nodes than another, and of what they hold more calls and more that looks back."""

    def text(self):
        words = []
        for k in range(self.chance.randint(2, 5)):
            words += self.node("n%d" % k)
        return words

    def bare(self, kind, deep, known, begun):
        chance = self.chance
        fitting = [node for node in self.nodes if node[2] == [kind]]
        if deep > 0 and fitting and chance.random() < 0.3:
            return 9, self.call(chance.choice(fitting), deep, known)
        if deep > 0 and chance.random() < 0.15:
            return 1, (self.part(kind, deep - 1, known, True, 2) + ["->", "pre"]
                       + self.part(kind, deep - 1, self.all, True, 8))
        return Writer.bare(self, kind, deep, known, begun)


def some_given(chance, node, steps):
    given = []
    for _ in range(steps):
        for _, _, kind in node["inputs"]:
            if kind == "bool":
                given.append(chance.randint(0, 1))
            else:
                given.append(chance.choice(ENDS + (chance.randint(-9, 9), chance.randint(-2 ** 31, 2 ** 31 - 1))))
    return given


class SecondMeaning(unittest.TestCase):
    TIMES = 400

    def compare(self, writer, seed):
        for k in range(seed, seed + self.TIMES):
            chance = random.Random(k)
            text = written(chance, writer(chance).text())
            nodes = Trees(scan(text)).text()
            for j, node in enumerate(nodes):
                steps = chance.randint(0, 9)
                given = some_given(chance, node, steps)
                answer = run(j, steps, 1000, bytes_of(text), given)
                if answer[0] < 0:
                    self.assertLess(answer[0], -1000000, text)
                    continue
                wanted = told(nodes, node, steps, given)
                self.assertEqual(answer, wanted, "seed %d, node %d, given %s:\n%s" % (k, j, given, text))
                self.ran += 1

    def setUp(self):
        self.ran = 0

    def test_texts(self):
        self.compare(Writer, 0)
        self.assertGreater(self.ran, self.TIMES)

    def test_texts_with_many_calls(self):
        self.compare(CallWriter, 100000)
        self.assertGreater(self.ran, self.TIMES * 2)
