"""What broken refuses, and in which order."""

from helper import BrokenCase, bytes_of
from instants.streams import broken
from test_kept import THOUSAND, node

WRONG_MOST = (0, -1, 21, 22, -20, 1000000, -2147483648, 2147483647)
WRONG_NODE = (-1, 2, 3, 64, -2147483648, 2147483647)
GOOD = (
    "node f(a: bool) returns (r: bool); let r = true; tel\n"
    "node g(a: bool) returns (r: bool); let r = a; tel\n"
)
# Each of its nodes is one that can't be searched.
WRONG = (
    "node f(a: int) returns (r: bool); let r = true; tel\n"
    "node g(a: bool) returns (r: int); let r = 1; tel\n"
)
MUCH = THOUSAND + node("c", [("b", 1000)], 0)
TOKEN = GOOD + "node h(x: int) ?"
LIMIT = GOOD + "n" * 32
RULE = GOOD + "node h(a: bool) returns (r: bool); let r = w; tel"


def wide(inputs, result="r: bool"):
    """A node that nothing breaks, with such inputs and outputs."""
    names = [part.split(":")[0] for part in result.split("; ")]
    values = ["true" if part.endswith("bool") else "1" for part in result.split("; ")]
    equations = " ".join("%s = %s;" % pair for pair in zip(names, values))
    return "node f(%s) returns (%s); let %s tel" % (inputs, result, equations)


def bools(count):
    return ", ".join("i%d" % k for k in range(count)) + ": bool"


class Refusals(BrokenCase):
    def refused(self, text, most, number, nodes):
        for k in nodes:
            self.assertEqual(broken(k, most, bytes_of(text)), [number], (k, most))

    def test_most(self):
        for most in WRONG_MOST:
            self.refused(GOOD, most, -2, (0, 1))
        for most in range(1, 21):
            self.assertEqual(self.asked(GOOD, most, 0), [0])
            self.assertEqual(self.asked(GOOD, most, 1), [1, 0])

    def test_most_comes_before_all_else(self):
        for text in (WRONG, TOKEN, LIMIT, RULE, MUCH, ""):
            for most in WRONG_MOST:
                self.refused(text, most, -2, (0, 1) + WRONG_NODE)

    def test_more_bytes_than_a_text_has(self):
        self.assertEqual(broken(0, 1, [32] * 65537), [-2])
        self.assertEqual(broken(0, 1, [32] * 65536), [-65636])
        self.assertEqual(broken(0, 0, [32] * 65536), [-2])

    def test_wrong_tokens(self):
        for most in (1, 20):
            self.refused(TOKEN, most, -100 - TOKEN.index("?"), (0, 1) + WRONG_NODE)
            self.refused("", most, -100, (0, 1) + WRONG_NODE)
            self.refused(GOOD + "node", most, -104 - len(GOOD), (0, 1) + WRONG_NODE)

    def test_wrong_tokens_come_before_broken_rules(self):
        text = GOOD.replace("r = a", "r = w") + "?"
        self.refused(text, 1, -100 - text.index("?"), (0, 1) + WRONG_NODE)

    def test_limits_come_with_the_tokens(self):
        self.refused(LIMIT, 1, -5, (0, 1) + WRONG_NODE)
        self.refused(GOOD + "? " + "n" * 32, 1, -100 - len(GOOD), (0, 1) + WRONG_NODE)
        self.refused(GOOD.replace("r = a", "r = w") + "n" * 32, 1, -5, (0, 1) + WRONG_NODE)

    def test_broken_rules(self):
        self.refused(RULE, 1, -1000000 - RULE.index("w;"), (0, 1) + WRONG_NODE)
        text = MUCH + "node d(x: int) returns (y: int); let y = y; tel"
        self.refused(text, 1, -1000000 - text.index("y = y"), (0, 1, 9))

    def test_a_broken_rule_of_any_node(self):
        text = GOOD + "node h(a: bool) returns (r: int); let r = a; tel"
        self.refused(text, 1, -1000000 - text.rindex("= a"), (0, 1, 2))

    def test_too_much_kept(self):
        self.refused(MUCH, 1, -5, (0, 1, 2, 3, -1))
        self.refused(MUCH + GOOD.replace("node f", "node h"), 20, -5, (0, 1, 2, 3, 4, 5, -1))
        text = THOUSAND + node("c", [("b", 999)], 999)
        self.assertEqual(self.asked(text, 1, 3), [-3])
        self.assertEqual(self.asked(text, 1, 2), [-4])

    def test_a_node_that_is_none(self):
        for most in (1, 2, 20):
            self.refused(GOOD, most, -3, WRONG_NODE)
            self.refused(WRONG, most, -3, WRONG_NODE)
            self.refused(WRONG, most, -4, (0, 1))

    def test_an_int_among_the_inputs(self):
        for inputs in ("a: int", "a: int; b: bool", "a: bool; b: int", "a, b, c: bool; d: int; e, g: bool", "a, b: int"):
            for most in (1, 2):
                self.assertEqual(self.asked(wide(inputs), most), [-4], inputs)
        self.assertEqual(self.asked(wide("a, b: bool"), 1), [0])

    def test_as_many_inputs_as_there_may_be_and_one_more(self):
        for most in (1, 2):
            self.assertEqual(self.asked(wide(bools(8)), most), [0])
            self.assertEqual(self.asked(wide(bools(9)), most), [-4])
        for count in (10, 20, 21, 62):
            self.assertEqual(self.asked(wide(bools(count)), 1), [-4])

    def test_the_first_output(self):
        for result in ("r: int", "r: int; s: bool", "r: int; s: int", "r: int; s: bool; t: bool"):
            self.assertEqual(self.asked(wide("a: bool", result), 1), [-4], result)
        for result in ("r: bool", "r: bool; s: int", "r: bool; s: bool", "r: bool; s: int; t: bool"):
            self.assertEqual(self.asked(wide("a: bool", result), 1), [0], result)

    def test_inputs_times_most(self):
        for count in range(1, 9):
            text = wide(bools(count))
            for most in range(1, 21):
                self.assertEqual(self.asked(text, most), [0] if count * most <= 20 else [-4], (count, most))

    def test_too_many_comes_also_where_it_would_break_soon(self):
        self.assertEqual(self.asked("node f(a, b: bool) returns (r: bool); let r = false; tel", 10), [1, 0])
        self.assertEqual(self.asked("node f(a, b: bool) returns (r: bool); let r = false; tel", 11), [-4])

    def test_it_is_the_node_asked_for_that_counts(self):
        text = WRONG + GOOD.replace("node f", "node h").replace("node g", "node i")
        self.assertEqual([self.asked(text, 3, k) for k in range(5)], [[-4], [-4], [0], [1, 0], [-3]])
