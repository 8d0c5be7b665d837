"""What the reading of a text leaves: parts, each behind those that it is made of, and their values."""

import unittest

from helper import HEAD, bytes_of
from instants.reading import read_nodes


def code_of(expression):
    return read_nodes(bytes_of(HEAD + "y = " + expression + "; tel"))[0].equations[0].code


def shown(code):
    return " ".join(str(part.worth) if part.what in ("name", "number") else part.what for part in code)


class Reading(unittest.TestCase):
    def test_parts_come_behind_what_they_are_made_of(self):
        for expression, wanted in (
            ("a - b - c * d", "a b - c d * -"),
            ("a -> b fby c => d => a", "a b c d a => => fby ->"),
            ("- - a mod not b", "a negate negate b not mod"),
            ("a < b and c or d xor a", "a b < c and d or a xor"),
            ("if a then b else c + d -> a", "a b c d + a -> if"),
            ("if a then b else c = d = a", "a b c d = if a ="),
            ("pre a + f(b, c + 1) * (a + b)", "a pre b c 1 + call a b + * +"),
            ("reset f(a) every not b + c", "a b not call c +"),
            ("activate f(a) every if a then b else c or d initial (1) + c", "a a b c d or if call c +"),
        ):
            self.assertEqual(shown(code_of(expression)), wanted, expression)

    def test_numbers(self):
        for digits in ("0", "007", "2147483647"):
            self.assertEqual(code_of(digits)[0].worth, int(digits))

    def test_values_behind_initial(self):
        call = code_of("activate f(a) every b initial (5, -5, true, false, -0)")[-1].worth
        self.assertEqual((call.name, call.way), ("f", "activate"))
        firsts = [(first.kind, first.number) for first in call.firsts]
        self.assertEqual(firsts, [("int", 5), ("int", -5), ("bool", 1), ("bool", 0), ("int", 0)])

    def test_names(self):
        node = read_nodes(bytes_of(
            "node f(a: int; b, c: bool) returns (d: int); var e, g: int; h: bool; let (d, e) = f(a); tel"))[0]
        self.assertEqual([(name.name, name.kind) for name in node.inputs], [("a", "int"), ("b", "bool"), ("c", "bool")])
        self.assertEqual([(name.name, name.kind) for name in node.outputs], [("d", "int")])
        self.assertEqual([(name.name, name.kind) for name in node.inner], [("e", "int"), ("g", "int"), ("h", "bool")])
        self.assertEqual([token.text for token in node.equations[0].lefts], ["d", "e"])
