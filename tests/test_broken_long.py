"""Long and deep: all inputs that there may be, much that's kept, many nodes, in good time."""

import sys

from helper import BrokenCase, InGoodTime, bytes_of
from instants.streams import broken

# Each of its instants leaves another past, whatever the inputs were: no two of them can be taken for one.
PAST = "node past(p: bool; n: int) returns (h: int); let h = (0 fby h) * 2 + (if p then 1 else 0) + n - n; tel\n"
COUNT = "node count(p: bool) returns (n: int); let n = (0 fby n) + (if p then 1 else 0); tel\n"
BOTH = (
    "node both(p: bool) returns (h, n: int; same: bool);"
    " var d: bool; let h = past(p, n); n = count(p); d = false -> pre p; same = d = (false fby p); tel\n"
)


def names_of(count):
    return ["i%d" % k for k in range(count)]


def node(name, calls, pres, end):
    """A node that calls and that keeps something itself, so many times each."""
    parts = ["%s(x)" % called for called, times in calls for k in range(times)]
    parts += ["pre x"] * pres
    return "node %s(x: bool) returns (y: bool); let y = true -> %s; tel\n" % (name, " or ".join(parts + [end]))


THOUSAND = node("a", [], 9, "x") + node("b", [("a", 99)], 9, "x")


class Long(InGoodTime, BrokenCase):
    def text(self, width, promise):
        """Over the inputs goes a number that tells all of them, and how many were true of each."""
        names = names_of(width)
        lets = ["(h%d, n%d, s%d) = both(i%d);" % (k, k, k, k) for k in range(width)]
        ints = ", ".join("h%d, n%d" % (k, k) for k in range(width))
        bools = ", ".join("s%d" % k for k in range(width))
        return PAST + COUNT + BOTH + "node f(%s: bool) returns (r: bool); var %s, t: int; %s: bool; let %s %s tel" % (
            ", ".join(names), ints, bools, " ".join(lets), "t = count(true); r = " + promise + ";")

    def test_none_of_a_million(self):
        for width, most in ((1, 20), (2, 10), (4, 5), (5, 4)):
            same = " and ".join("s%d and n%d <= t and h%d >= n%d" % (k, k, k, k) for k in range(width))
            self.assert_kept(self.text(width, same), most)

    def test_the_last_of_a_million(self):
        for width, most in ((1, 20), (2, 10), (4, 5), (5, 4)):
            last = " + ".join("n%d" % k for k in range(width)) + " < %d" % (width * most)
            self.assert_found(self.text(width, last), most, [(1 << width) - 1] * most)

    def test_one_of_a_million(self):
        self.assert_found(self.text(1, "h0 <> 699050"), 20, [1, 0] * 10)
        self.assert_found(self.text(2, "h0 <> 682 or h1 <> 341 or t <> 10"), 10, [1, 2] * 5)
        self.assert_found(self.text(4, "h0 <> 21 or h1 <> 10 or h2 <> 31 or h3 <> 0 or t <> 5"), 5, [5, 6, 5, 6, 5])

    def test_with_3_6_7_and_8_inputs(self):
        for width, most in ((3, 6), (6, 3), (7, 2), (8, 2)):
            same = " and ".join("s%d and n%d <= t" % (k, k) for k in range(width))
            self.assert_kept(self.text(width, same), most)
            self.assert_found(self.text(width, "n%d < %d" % (width - 1, most)), most, [1 << width - 1] * most)

    def test_multiplied_and_divided(self):
        text = PAST + (
            "node f(p: bool) returns (r: bool); var h, m, q, z: int;"
            " let h = past(p, 1) * 48271 + 11; m = (1 fby m) * 1103515245 + h; q = m / h; z = m mod h;"
            " r = q * h + z = m; tel"
        )
        self.assert_kept(text, 20)

    def test_reset_and_activate(self):
        text = COUNT + (
            "node on(p, q: bool) returns (n: int); let n = activate count(p) every q initial (0); tel\n"
            "node f(p, q: bool) returns (r: bool); var h, m: int;"
            " let h = (1 fby h) * 4 + (if p then 1 else 0) + (if q then 2 else 0);"
            " m = reset on(p, q) every (h mod 5 = 2); r = m <= 10 and m >= 0; tel"
        )
        self.assert_kept(text, 10)

    def test_much_that_is_kept(self):
        self.assert_kept(THOUSAND + node("c", [("b", 100)], 0, "true"), 5)
        self.assert_found(THOUSAND + node("c", [("b", 100)], 0, "x"), 5, [0, 0])
        self.assert_kept(THOUSAND + node("c", [("b", 999)], 999, "true"), 3)
        self.assert_found(THOUSAND + node("c", [("b", 999)], 999, "x"), 3, [0, 0])

    def test_much_that_is_kept_with_many_instants(self):
        self.assert_kept(THOUSAND + node("c", [("b", 100)], 0, "true"), 20)

    def test_much_that_is_kept_of_numbers(self):
        text = COUNT + "node a(p: bool) returns (n: int); let n = %s; tel\n" % " + ".join(["count(p)"] * 300)
        text += "node b(p: bool) returns (n: int); let n = %s; tel\n" % " + ".join(["a(p)"] * 170)
        text += "node f(p: bool) returns (r: bool); let r = b(p) < 51000 * %d; tel\n"
        self.assert_kept(text % 5, 4)
        self.assert_found(text % 3, 4, [1] * 3)

    def test_much_that_is_kept_with_8_inputs(self):
        end = "node d(%s: bool) returns (r: bool); let r = c(i0) or not i7; tel\n" % ", ".join(names_of(8))
        self.assert_found(THOUSAND + node("c", [("b", 100)], 0, "x") + end, 2, [0, 128])

    def test_a_long_way_back(self):
        text = "node f(x: bool) returns (y: bool); let y = " + "true fby " * 4095 + "x; tel"
        self.assert_kept(text, 20)
        text = "node f(x: bool) returns (y: bool); let y = " + "true fby " * 19 + "not x; tel"
        self.assert_found(text, 20, [1] + [0] * 19)

    def test_many_operators(self):
        text = "node f(x: bool) returns (y: bool); let y = (true fby y) or x" + "%s; tel"
        for sign in ("and", "xor", "=>"):
            self.assert_kept(text % ((" %s x" % sign) * 4094), 20)
        self.assert_found(text % (" xor x" * 4093), 20, [1])
        self.assert_found(text % (" xor x" * 4091 + " or (true fby not x)"), 20, [1, 1])

    def chain(self, right):
        text = "node f0(x: bool) returns (y: bool); let y = x; tel\n"
        for k in range(1, 64):
            text += "node f%d(x: bool) returns (y: bool); let y = %s; tel\n" % (k, right % (k - 1))
        return text

    def test_64_nodes_each_calling_the_one_before(self):
        self.assert_found(self.chain("f%d(x)"), 20, [0])
        self.assert_found(self.chain("not f%d(x)"), 20, [1])
        self.assert_kept(self.chain("f%d(x) or true"), 20)

    def test_64_nodes_each_calling_the_one_before_with_a_past(self):
        for right in ("true fby f%d(x)", "true fby (reset f%d(x) every false)", "true -> pre f%d(x)"):
            self.assert_kept(self.chain(right), 20)
            end = "node g(x: bool) returns (y: bool); let y = f19(x); tel\n"
            text = "".join(self.chain(right).splitlines(True)[:20]) + end
            self.assert_found(text, 20, [0] * 20)
            self.assert_kept(text, 19)

    def test_64_nodes_each_calling_the_one_before_where_it_may_go_on(self):
        text = self.chain("activate f%d(x) every x initial (true)").replace("let y = x;", "let y = false;")
        self.assert_found(text, 20, [1])

    def test_with_most_of_the_calls_that_python_allows_taken_already(self):
        text = self.chain("f%d(x)")

        def within(calls):
            return within(calls - 1) if calls else broken(63, 20, bytes_of(text))
        self.assertEqual(within(sys.getrecursionlimit() // 2), [1, 0])
