"""What the tests share: texts with a mark at a place, and what the three calls answer for them."""

import time
import unittest

from instants.streams import broken, order, run

ROOM = 2000000
SECONDS = 20
MARK = "@"

# Nodes to call, and a node with names of both kinds whose equations a test gives.
NODES = (
    "node one(a: int) returns (b: int); let b = a; tel\n"
    "node flip(a: bool) returns (b: bool); let b = not a; tel\n"
    "node both(a: int; q: bool) returns (b: int; c: bool); let b = a; c = q; tel\n"
    "node join(a: int; q: bool) returns (b: int); let b = if q then a else 0; tel\n"
)
HEAD = "node f(x, z: int; p, q: bool) returns (y: int; r: bool);\nlet\n"


def bytes_of(text):
    return list(text.encode("latin-1"))


def unmarked(marked):
    """The text without its mark, and the place where the mark stood."""
    if marked.count(MARK) != 1:
        raise ValueError("just one mark is needed: " + marked)
    return marked.replace(MARK, ""), marked.index(MARK)


def node_f(equations):
    return NODES + HEAD + equations + "\ntel\n"


def int_is(expression):
    """A text in which this expression, an int, is all that may be wrong."""
    return node_f("r = true; y = " + expression + ";")


def bool_is(expression):
    return node_f("y = 0; r = " + expression + ";")


class InGoodTime(unittest.TestCase):
    """Each of its tests fails if it takes too long."""

    def setUp(self):
        self.began = time.monotonic()

    def tearDown(self):
        self.assertLess(time.monotonic() - self.began, SECONDS)


class OrderCase(unittest.TestCase):
    def answered(self, text, most=ROOM):
        return order(most, bytes_of(text))

    def assert_lines(self, text, lines):
        self.assertEqual(self.answered(text), [len(lines)] + bytes_of(lines))

    def assert_refused(self, text, number, most=ROOM):
        self.assertEqual(self.answered(text, most), [number], text[:400])

    def assert_right(self, text):
        self.assertGreaterEqual(self.answered(text)[0], 0, text[:400])

    def assert_limit(self, text):
        self.assert_refused(text, -5)

    def assert_token(self, marked):
        text, place = unmarked(marked)
        self.assert_refused(text, -100 - place)

    def assert_rule(self, marked):
        text, place = unmarked(marked)
        self.assert_refused(text, -1000000 - place)

    def assert_order_of_f(self, equations, numbers):
        """The order of the last node's equations, whatever the nodes before it have."""
        answer = self.answered(node_f(equations))
        self.assertGreaterEqual(answer[0], 0, answer)
        last = bytes(answer[1:]).decode().splitlines()[-1]
        self.assertEqual(last, "f " + numbers)


def flat(rows):
    return [number for row in rows for number in row]


class RunCase(unittest.TestCase):
    """Runs the last node of a text, or another; what's given and what's told are rows, one for each instant."""

    def answered(self, text, rows, node=None):
        node = text.count("node ") - 1 if node is None else node
        return run(node, len(rows), ROOM, bytes_of(text), flat(rows))

    def assert_told(self, text, rows, told, node=None):
        self.assertEqual(self.answered(text, rows, node), [len(told)] + flat(told), text[:400])

    def assert_stream(self, text, column, told):
        """Of a node with one input and one output."""
        self.assert_told(text, [[number] for number in column], [[number] for number in told])


class BrokenCase(unittest.TestCase):
    """Asks what breaks the last node of a text, or another."""

    def asked(self, text, most, node=None):
        node = text.count("node ") - 1 if node is None else node
        return broken(node, most, bytes_of(text))

    def assert_found(self, text, most, told, node=None):
        """So many instants, with these bytes."""
        self.assertEqual(self.asked(text, most, node), [len(told)] + told, text[-400:])

    def assert_kept(self, text, most, node=None):
        """Nothing breaks it in so many instants."""
        self.assertEqual(self.asked(text, most, node), [0], text[-400:])

    def assert_soonest(self, text, told, node=None):
        """Just so many instants are needed: with one less nothing's found, with more the same."""
        for most in range(1, 20 // width_of(text, node) + 1):
            if most < len(told):
                self.assert_kept(text, most, node)
            else:
                self.assert_found(text, most, told, node)


def width_of(text, node=None):
    """How many inputs a node has."""
    names = text.split("node ")[-1 if node is None else node + 1].split("(")[1].split(")")[0]
    return len(names.replace(";", ",").split(","))
