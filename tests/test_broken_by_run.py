"""broken held against run: on small nodes all inputs are tried by run, one after the other in order."""

import itertools
import random
import unittest
from unittest import mock

from helper import bytes_of
from instants.bundles import first_bundle
from instants.lanes import in_masks
from instants.making import made_program
from instants.reading import read_nodes
from instants.running import run_program
from instants.streams import broken, run
from test_second_meaning import CallWriter
from test_second_reading import written

GOAL = "GOAL"
GREAT = ("2147483647", "65536", "46341", "1103515245", "2", "0")


class BoolWriter(CallWriter):
    """The last node has bools alone as inputs, and its first output is one; GOAL stands for a number in it."""

    def text(self):
        words = CallWriter.text(self)
        self.width = self.chance.randint(1, 3)
        return [self.greater(word) for word in words + self.last("abc"[:self.width], "defg")]

    def greater(self, word):
        return self.chance.choice(GREAT) if word.isdigit() and self.chance.random() < 0.2 else word

    def last(self, inputs, inner):
        chance = self.chance
        self.kinds = {name: "bool" for name in inputs}
        self.kinds.update({name: chance.choice(("int", "bool")) for name in inner})
        words = ["node", "last", "("] + self.names(inputs, self.kinds)
        words += ") returns ( ok : bool ; sum : int ) ; var".split() + self.names(inner, self.kinds) + [";", "let"]
        own, known, equations = list(inner), list(inputs), []
        chance.shuffle(own)
        self.all = list(inputs) + own
        while own:
            equations.append(self.equation(own, known))
        equations.append("sum = ( 1 fby sum ) * 3".split() + self.sums(known) + [";"])
        equations.append("ok =".split() + self.promise(known) + [";"])
        chance.shuffle(equations)
        return words + [word for equation in equations for word in equation] + ["tel"]

    def sums(self, known):
        words = []
        for k, name in enumerate(known):
            words += ["+", name] if self.kinds[name] == "int" else ["+", "(", "if", name, "then", str(k), "else", "0", ")"]
        return words

    def promise(self, known):
        way = self.chance.randint(0, 3)
        if way == 0:
            return self.part("bool", 4, known, True, 1)
        if way == 1:
            return ["sum", "<>", "7", "or"] + self.part("bool", 4, known, True, 4)
        return ["sum", "<>", GOAL]


def with_goal(text, number):
    return text.replace(GOAL, str(number) if number >= 0 else "(-%d - 1)" % (-1 - number))


def first_of_the_soonest(text, node, width, most):
    best = []
    for path in itertools.product((0, 1), repeat=width * most):
        told = run(node, most, 2 * most, bytes_of(text), list(path))[1::2]
        if 0 in told[:len(best) // width or most]:
            end = told.index(0) + 1
            if not best or end * width < len(best):
                best = path[:end * width]
    rows = [best[k:k + width] for k in range(0, len(best), width)]
    return [len(rows)] + [sum(bit << k for k, bit in enumerate(row)) for row in rows]


class Case:
    """A text by chance, and how many instants are looked at."""

    def __init__(self, seed):
        chance = random.Random(seed)
        writer = BoolWriter(chance)
        text = written(chance, writer.text())
        self.width = writer.width
        self.most = chance.randint(1, 6 // self.width)
        self.node = len(writer.nodes)
        if GOAL in text:
            # What it's to miss is the sum at the end of some path; so that's found at least.
            path = [chance.randint(0, 1) for _ in range(self.width * self.most)]
            answer = run(self.node, self.most, 100, bytes_of(with_goal(text, 0)), path)
            text = with_goal(text, answer[-1])
        self.text = text
        self.right = run(self.node, 0, 0, bytes_of(text), []) == [0]


class ByRun(unittest.TestCase):
    def cases(self, seed, times):
        for k in range(seed, seed + times):
            case = Case(k)
            if case.right:
                yield k, case

    def test_the_first_of_the_soonest(self):
        seen = {}
        for seed, case in self.cases(0, 70):
            answer = broken(case.node, case.most, bytes_of(case.text))
            wanted = first_of_the_soonest(case.text, case.node, case.width, case.most)
            self.assertEqual(answer, wanted, "seed %d, most %d:\n%s" % (seed, case.most, case.text))
            seen[answer[0]] = seen.get(answer[0], 0) + 1
        for instants in (0, 1, 2, 3):
            self.assertGreater(seen[instants], 2, seen)

    def test_however_many_lanes_there_may_be(self):
        # So bundles are split, and merged, that would be too small for it else.
        for seed, case in self.cases(10000, 70):
            answer = broken(case.node, case.most, bytes_of(case.text))
            for lanes in (1, 2, 4, 8, 32):
                with mock.patch("instants.searching.MOST_LANES", lanes):
                    self.assertEqual(broken(case.node, case.most, bytes_of(case.text)), answer, (seed, lanes))

    def test_each_lane_is_as_a_run_by_itself(self):
        ran = 0
        for seed, case in self.cases(20000, 150):
            program = made_program(read_nodes(bytes_of(case.text)))
            bundle = first_bundle(program)
            told = []
            for _ in range(case.most):
                for _ in range(case.width):
                    bundle.tell_input()
                bundle.next_instant()
                told.append([in_masks(bundle.full, program.cells[cell]) for cell in program.outputs])
            for lane in range(1 << case.width * case.most):
                path = bundle.path(1 << lane)
                values = []
                for k, row in enumerate(told):
                    # At an instant before the last there were fewer lanes.
                    then = lane % (1 << case.width * (k + 1))
                    values += [number_in(masks, then) for masks in row]
                answer = run_program(program, case.most, path)
                self.assertEqual(values, answer, "seed %d, given %s:\n%s" % (seed, path, case.text))
                ran += 1
        self.assertGreater(ran, 1500)


def number_in(masks, lane):
    number = -(masks[-1] >> lane & 1)
    for mask in reversed(masks):
        number = number * 2 + (mask >> lane & 1)
    return number
