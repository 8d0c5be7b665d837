"""Long and deep: as many steps, numbers, bytes, operators and nodes as there may be, in good time."""

import sys

from helper import InGoodTime, RunCase, bytes_of
from instants.streams import run
from test_kept import TEN, THOUSAND, node

MOST = 65536
STEPS = 10000


def wrapped(number):
    return (number + 2 ** 31) % 2 ** 32 - 2 ** 31


def one_node(right, kind="int"):
    return "node f(x: %s) returns (y: %s); let y = %s; tel" % (kind, kind, right)


class Long(InGoodTime, RunCase):
    def assert_last(self, text, column, number):
        """What comes of the last instant."""
        answer = self.answered(text, [[value] for value in column])
        self.assertEqual((answer[0], len(answer), answer[-1]), (len(column), len(column) + 1, number), text[:100])

    def test_many_steps(self):
        self.assert_stream(one_node("(0 fby y) + x"), [3] * STEPS, range(3, 3 * STEPS + 3, 3))
        self.assert_stream(one_node("1 -> pre y * 3"), [0] * STEPS, [wrapped(3 ** k) for k in range(STEPS)])

    def test_many_numbers_given(self):
        text = "node f(x, z: int; p: bool) returns (y: int; q: bool); let y = if p then x else z; q = not p; tel"
        rows = [(k, -k, k % 3 // 2) for k in range(STEPS)]
        self.assert_told(text, rows, [(k if k % 3 == 2 else -k, int(k % 3 != 2)) for k in range(STEPS)])

    def test_many_numbers_told(self):
        names = ["o%d" % k for k in range(60)]
        text = "node f(x: int) returns (%s: int); let %s tel" % (
            ", ".join(names), " ".join("o%d = x + %d;" % (k, k) for k in range(60)))
        self.assert_told(text, [[k] for k in range(STEPS)], [[k + j for j in range(60)] for k in range(STEPS)])

    def test_63_inputs(self):
        names = ["i%d" % k for k in range(63)]
        text = "node f(%s: int) returns (y: int); let y = %s; tel" % (", ".join(names), " + ".join(names))
        self.assert_told(text, [[k] * 63 for k in range(476)], [[63 * k] for k in range(476)])

    def test_a_text_as_long_as_it_may_be(self):
        text = one_node("x + 1")
        self.assert_last(text + " " * (MOST - len(text)), [4, 5], 6)
        part = " + (0000000001 * (x))"
        long = one_node("x" + part * 2047 + "%s")
        room = MOST - len(long) + 2
        self.assert_last(long % ("\n" * room), [4, 5, 1], 2048)

    def test_a_text_full_of_nodes(self):
        text = ""
        for k in range(64):
            text += "node f%d(x: int) returns (y: int); let y = %s; tel\n" % (k, "+".join(["x"] * 480))
        self.assertLess(MOST - 3000, len(text))
        self.assertLessEqual(len(text), MOST)
        self.assert_last(text, [4, 5], 480 * 5)

    def test_operators_from_the_left(self):
        for sign, number in (("+", 4097 * 3), ("-", -4095 * 3), ("*", wrapped(3 ** 4097)), ("/", 0), (" mod ", 0)):
            self.assert_last(one_node("x" + (sign + "x") * 4096), [5] * 9 + [3], number)
        for sign, number in ((" or ", 1), (" xor ", 1), (" and ", 1)):
            self.assert_last(one_node("x" + (sign + "x") * 4096, "bool"), [1], number)
            self.assert_last(one_node("x" + (sign + "x") * 4096, "bool"), [1, 1, 0], 0)

    def test_operators_from_the_right(self):
        self.assert_last(one_node("x" + " -> x" * 4096), [5] * 9 + [3], 3)
        self.assert_last(one_node("x" + " -> x + 1" * 2048), [5] * 9 + [3], 4)
        self.assert_last(one_node("x" + "=>x" * 4096, "bool"), [1, 0], 1)
        self.assert_last(one_node("x" + "=>x" * 4095 + "=>false", "bool"), [1, 1], 0)
        self.assert_last(one_node("7" + " fby 7" * 4095 + " fby x"), list(range(5000)), 5000 - 1 - 4096)
        self.assert_last(one_node("0" + " fby 0" * 4095 + " fby x"), [9] * 4096, 0)
        self.assert_last(one_node("0" + " fby 0" * 4095 + " fby x"), [9] * 4097, 9)

    def test_operators_for_many_steps(self):
        self.assert_last(one_node("x" + "+x" * 400), [3] * STEPS, 3 * 401)
        self.assert_last(one_node("x" + "+x" * 4096), [3] * 1000, 3 * 4097)

    def test_deep(self):
        self.assert_last(one_node("(" * 64 + "x" + ")" * 64), [3], 3)
        self.assert_last(one_node("- " * 63 + "x"), [3], -3)
        self.assert_last(one_node("0 -> pre (" * 32 + "x" + ")" * 32), list(range(100)), 99 - 32)
        self.assert_last(one_node("if x > 0 then x else " * 64 + "7"), [3, -3], 7)

    def test_64_nodes_each_calling_the_one_before(self):
        text = "node f0(x: int) returns (y: int); let y = x; tel\n"
        for k in range(1, 64):
            text += "node f%d(x: int) returns (y: int); let y = f%d(x) + 1; tel\n" % (k, k - 1)
        self.assert_stream(text, range(STEPS), range(63, STEPS + 63))

    def test_64_nodes_each_calling_the_one_before_with_a_past(self):
        for call in ("f%d(x)", "reset f%d(x) every false", "activate f%d(x) every true initial (0)"):
            text = "node f0(x: int) returns (y: int); let y = x; tel\n"
            for k in range(1, 64):
                text += "node f%d(x: int) returns (y: int); let y = 0 fby %s; tel\n" % (k, call % (k - 1))
            self.assert_stream(text, range(1, 1001), [0] * 63 + list(range(1, 938)))

    def test_64_nodes_and_64_calls_within_one_another_in_each(self):
        text = "node f0(x: int) returns (y: int); let y = x + 1; tel\n"
        text += "node f1(x: int) returns (y: int); let y = " + "f0(" * 64 + "x" + ")" * 64 + "; tel\n"
        for k in range(2, 64):
            text += "node f%d(x: int) returns (y: int); let y = %sf%d(x)%s; tel\n" % (k, "f0(" * 63, k - 1, ")" * 63)
        self.assert_last(text, [7] * 20, 7 + 64 + 62 * 63)

    def test_with_most_of_the_calls_that_python_allows_taken_already(self):
        text = "node f0(x: int) returns (y: int); let y = x; tel\n"
        for k in range(1, 64):
            text += "node f%d(x: int) returns (y: int); let y = f%d(x); tel\n" % (k, k - 1)

        def within(calls):
            return within(calls - 1) if calls else run(63, 1, 1, bytes_of(text), [5])
        self.assertEqual(within(sys.getrecursionlimit() // 2), [1, 5])

    def test_keeping_near_a_million(self):
        text = THOUSAND + node("c", [("b", 999)], 999)
        column = [1, 20, -300, 4000]
        told = [0] + [wrapped(900099 * column[k - 1] + 99901 * column[k]) for k in (1, 2, 3)]
        self.assert_stream(text, column, told)

    def test_near_a_million_instances(self):
        text = "node one(x: int) returns (y: int); let y = x; tel\n"
        text += node("a", [("one", 998)], 0) + node("c", [("a", 1000)], 0)
        self.assert_stream(text, [5, 6, 7], [0, 999001 * 6, 999001 * 7])

    def test_much_that_begins_anew_often(self):
        # What's never let is begun anew at each instant, with all that it has within.
        text = THOUSAND + node("c", [("b", 990)], 0)
        text += "node d(x: int) returns (y: int); let y = activate c(x) every false initial (3); tel\n"
        text += "node e(x: int) returns (y: int); let y = reset d(x) every true; tel\n"
        self.assert_stream(text, [1] * STEPS, [3] * STEPS)

    def test_begun_anew_at_each_instant(self):
        text = TEN + "node f(x: int) returns (y: int); let y = reset a(x) every (x mod 2 = 0); tel\n"
        told = [0 if k % 2 == 0 else 9 * (k - 1) + k for k in range(STEPS)]
        self.assert_stream(text, range(STEPS), told)
