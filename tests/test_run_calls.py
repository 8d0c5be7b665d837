"""Calls: each an instance of its own; reset and activate, also within nodes that are reset and activated."""

from helper import RunCase

# How many instants an instance has gone through; the sum of what it was given; what it was given the instant before.
TALLY = "node tally(x: int) returns (y: int); let y = 1 -> pre y + 1; tel\n"
SUM = "node sum(x: int) returns (y: int); let y = x -> pre y + x; tel\n"
LAST = "node last(x: int) returns (y: int); let y = -1 fby x; tel\n"
PAIR = "node pair(x: int; p: bool) returns (a: int; b: bool; c: int); let c = 0 fby a; a = x + 1; b = not p; tel\n"
NODES = TALLY + SUM + LAST + PAIR


def node_f(right, inputs="x: int"):
    return NODES + "node f(%s) returns (y: int); let y = %s; tel\n" % (inputs, right)


class Calls(RunCase):
    def assert_int(self, right, told, column=(1, 2, 3, 4)):
        self.assert_stream(node_f(right), column, told)

    def test_one(self):
        self.assert_int("tally(x)", [1, 2, 3, 4])
        self.assert_int("sum(x)", [1, 3, 6, 10])
        self.assert_int("last(x)", [-1, 1, 2, 3])

    def test_twice_in_one_equation(self):
        self.assert_int("sum(x) * 100 + sum(2 * x)", [102, 306, 612, 1020])
        self.assert_int("sum(x) - sum(x)", [0, 0, 0, 0])
        self.assert_int("tally(x) + tally(x)", [2, 4, 6, 8])

    def test_in_what_another_is_given(self):
        self.assert_int("sum(sum(x))", [1, 4, 10, 20])
        self.assert_int("last(last(last(x)))", [-1, -1, -1, 1])
        self.assert_int("sum(last(sum(x)))", [-1, 0, 3, 9])

    def test_in_two_equations(self):
        text = NODES + "node f(x: int) returns (a, b: int); let a = sum(x); b = sum(a) - sum(1); tel"
        self.assert_told(text, [(1,), (2,), (3,)], [(1, 0), (3, 2), (6, 7)])

    def test_in_two_instances_of_another_node(self):
        two = NODES + "node two(x: int) returns (y: int); let y = sum(x) + 10 * last(x); tel\n"
        text = two + "node f(x: int) returns (a, b, c: int); let a = two(x); b = two(2 * x); c = two(a); tel"
        self.assert_told(text, [(1,), (2,), (3,)], [(-9, -8, -19), (13, 26, -86), (26, 52, 160)])

    def test_in_a_part_of_an_if_that_is_not_taken(self):
        text = node_f("if p then sum(x) else 0 - tally(x)", "p: bool; x: int")
        self.assert_told(text, [(0, 1), (1, 2), (0, 3), (1, 4)], [(-1,), (3,), (-3,), (10,)])

    def test_on_the_side_of_an_arrow_that_is_not_taken(self):
        self.assert_int("0 -> sum(x)", [0, 3, 6, 10])
        self.assert_int("sum(x) -> 0", [1, 0, 0, 0])
        self.assert_int("tally(x) -> tally(x)", [1, 2, 3, 4])
        self.assert_int("tally(x) fby tally(x) * 10", [1, 10, 20, 30])

    def test_in_what_is_not_needed(self):
        text = NODES + "node f(x: int; p: bool) returns (y: bool); let y = p or sum(x) > 5; tel"
        self.assert_told(text, [(1, 1), (2, 1), (3, 0), (-3, 0)], [(1,), (1,), (1,), (0,)])
        text = NODES + "node f(x: int; p: bool) returns (y: bool); let y = p and sum(x) > 5; tel"
        self.assert_told(text, [(1, 0), (2, 0), (3, 1), (-3, 1)], [(0,), (0,), (1,), (0,)])

    def test_behind_pre(self):
        self.assert_int("0 -> pre sum(x)", [0, 1, 3, 6])
        self.assert_int("0 -> pre sum(y + x)", [0, 1, 4, 11])
        self.assert_int("7 fby last(sum(x))", [7, -1, 1, 3])
        self.assert_int("0 -> pre (1 -> pre sum(y + 1))", [0, 1, 1, 3])

    def test_of_several_outputs(self):
        text = NODES + "node f(x: int; p: bool) returns (i: int; j: bool; k: int); let (i, j, k) = pair(x, p); tel"
        self.assert_told(text, [(1, 0), (5, 1), (7, 0)], [(2, 1, 0), (6, 0, 2), (8, 1, 6)])
        text = NODES + (
            "node f(x: int; p: bool) returns (k: bool; i, j: int); var m: int;"
            " let i = j + m; (m, k, j) = pair(x, p); tel"
        )
        self.assert_told(text, [(1, 0), (5, 1), (7, 0)], [(1, 2, 0), (0, 8, 2), (1, 14, 6)])

    def test_of_several_outputs_twice(self):
        text = NODES + (
            "node f(x: int; p: bool) returns (a, b: int); var c, d: int; q, r: bool;"
            " let (a, q, c) = pair(x, p); (b, r, d) = pair(c, q); tel"
        )
        self.assert_told(text, [(1, 0), (5, 1), (7, 0)], [(2, 1), (6, 3), (8, 7)])

    def test_of_several_outputs_in_brackets(self):
        text = NODES + "node f(x: int; p: bool) returns (i: int; j: bool; k: int); let (i, j, k) = ((pair(x, p))); tel"
        self.assert_told(text, [(1, 0), (5, 1)], [(2, 1, 0), (6, 0, 2)])

    def test_an_output_that_is_an_input(self):
        text = (
            "node swap(a, b: int) returns (c, d: int); let c = b; d = a; tel\n"
            "node f(x, z: int) returns (a, b: int); var c, d: int; let (c, d) = swap(x, z); (a, b) = swap(d, c); tel\n"
        )
        self.assert_told(text, [(1, 2), (3, 4)], [(2, 1), (4, 3)])

    def test_deep_through_many_nodes(self):
        text = "node f0(x: int) returns (y: int); let y = x; tel\n"
        for k in range(1, 10):
            text += "node f%d(x: int) returns (y: int); let y = %d fby f%d(x); tel\n" % (k, k, k - 1)
        self.assert_stream(text, list(range(100, 112)), [9, 8, 7, 6, 5, 4, 3, 2, 1, 100, 101, 102])
        text = "node f0(x: int) returns (y: int); let y = (0 fby y) + x; tel\n"
        for k in range(1, 5):
            text += "node f%d(x: int) returns (y: int); let y = f%d(x) + f%d(f%d(0 fby x)); tel\n" % ((k,) + (k - 1,) * 3)
        # What each adds, by generating functions: f0 is 1/(1-t), each other g + t g g.
        series = [1] * 6
        for k in range(4):
            square = [sum(series[i] * series[j - i] for i in range(j + 1)) for j in range(6)]
            series = [series[j] + (square[j - 1] if j else 0) for j in range(6)]
        self.assert_stream(text, [1, 0, 0, 0, 0, 0], series)


class Reset(RunCase):
    def assert_reset(self, right, rows, told, more=""):
        text = NODES + more + "node f(x: int; p: bool) returns (y: int); let y = %s; tel\n" % right
        self.assert_told(text, rows, [[number] for number in told])

    def test_it_begins_anew_before(self):
        rows = [(1, 0), (2, 0), (3, 1), (4, 0), (5, 0), (6, 1)]
        self.assert_reset("reset tally(x) every p", rows, [1, 2, 1, 2, 3, 1])
        self.assert_reset("reset sum(x) every p", rows, [1, 3, 3, 7, 12, 6])
        self.assert_reset("reset last(x) every p", rows, [-1, 1, -1, 3, 4, -1])

    def test_at_the_first_instant(self):
        self.assert_reset("reset sum(x) every p", [(1, 1), (2, 0), (3, 0)], [1, 3, 6])
        self.assert_reset("reset last(x) every p", [(1, 1), (2, 0), (3, 0)], [-1, 1, 2])

    def test_several_times_in_a_row(self):
        self.assert_reset("reset sum(x) every p", [(1, 1), (2, 1), (3, 1), (4, 0), (5, 1), (6, 1)], [1, 2, 3, 7, 5, 6])

    def test_never_and_always(self):
        rows = [(1, 0), (2, 0), (3, 0)]
        self.assert_reset("reset sum(x) every false", rows, [1, 3, 6])
        self.assert_reset("reset sum(x) every true", rows, [1, 2, 3])
        self.assert_reset("reset sum(x) every (true -> false)", rows, [1, 3, 6])
        self.assert_reset("reset sum(x) every (false -> pre (x = 1))", rows, [1, 2, 5])

    def test_what_it_is_given_has_its_past_all_the_same(self):
        self.assert_reset("reset sum(0 fby x) every p", [(1, 0), (2, 0), (3, 1), (4, 0)], [0, 1, 2, 5])
        self.assert_reset("reset sum(sum(x)) every p", [(1, 0), (2, 0), (3, 1), (4, 0)], [1, 4, 6, 16])

    def test_only_that_instance(self):
        self.assert_reset("reset sum(x) every p + 100 * sum(x)", [(1, 0), (2, 1), (3, 0)], [101, 302, 605])

    def test_with_all_the_instances_within(self):
        more = (
            "node inner(x: int) returns (y: int); let y = sum(x) + 100 * tally(x); tel\n"
            "node outer(x: int) returns (y: int); let y = inner(x) + 10000 * tally(inner(x)); tel\n"
        )
        rows = [(1, 0), (2, 0), (3, 1), (4, 0)]
        self.assert_reset("reset outer(x) every p", rows, [10101, 20203, 10103, 20207], more)

    def test_within_one_that_is_reset(self):
        more = "node half(x: int) returns (y: int); let y = reset sum(x) every (x mod 2 = 0); tel\n"
        rows = [(1, 0), (3, 0), (2, 0), (5, 0), (7, 1), (9, 0), (4, 1), (1, 0)]
        self.assert_reset("reset half(x) every p", rows, [1, 4, 2, 7, 7, 16, 4, 5], more)

    def test_of_several_outputs(self):
        text = NODES + (
            "node f(x: int; p: bool) returns (a: int; b: bool; c: int); let (a, b, c) = reset pair(x, p) every p; tel"
        )
        self.assert_told(text, [(1, 0), (2, 0), (3, 1), (4, 0)], [(2, 1, 0), (3, 1, 2), (4, 0, 0), (5, 1, 4)])

    def test_in_a_part_that_is_not_taken(self):
        rows = [(1, 0), (2, 1), (3, 0), (4, 0)]
        self.assert_reset("if p then -1 else reset sum(x) every p", rows, [1, -1, 5, 9])

    def test_behind_pre(self):
        rows = [(1, 0), (2, 0), (3, 1), (4, 0)]
        self.assert_reset("0 -> pre (reset sum(x) every p)", rows, [0, 1, 3, 3])
        self.assert_reset("0 fby reset sum(x + y) every p", rows, [0, 1, 4, 7])


class Activate(RunCase):
    def assert_activate(self, right, rows, told, more=""):
        text = NODES + more + "node f(x: int; p: bool) returns (y: int); let y = %s; tel\n" % right
        self.assert_told(text, rows, [[number] for number in told])

    def test_it_goes_on_only_where_it_is_let(self):
        rows = [(1, 0), (2, 1), (3, 0), (4, 0), (5, 1), (6, 1)]
        self.assert_activate("activate tally(x) every p initial (-7)", rows, [-7, 1, 1, 1, 2, 3])
        self.assert_activate("activate sum(x) every p initial (9)", rows, [9, 2, 2, 2, 7, 13])
        self.assert_activate("activate last(x) every p initial (9)", rows, [9, -1, -1, -1, 2, 5])

    def test_at_the_first_instant(self):
        self.assert_activate("activate sum(x) every p initial (9)", [(1, 1), (2, 0), (3, 1)], [1, 1, 4])

    def test_never_and_always(self):
        rows = [(1, 0), (2, 0), (3, 0)]
        self.assert_activate("activate sum(x) every false initial (-2147483647)", rows, [-2147483647] * 3)
        self.assert_activate("activate sum(x) every true initial (9)", rows, [1, 3, 6])

    def test_what_it_is_given_has_its_past_all_the_same(self):
        rows = [(1, 0), (2, 1), (3, 0), (4, 0), (5, 1)]
        self.assert_activate("activate sum(0 fby x) every p initial (9)", rows, [9, 1, 1, 1, 5])
        self.assert_activate("activate sum(0 -> pre x) every p initial (9)", rows, [9, 1, 1, 1, 5])
        self.assert_activate("activate last(sum(x)) every p initial (9)", rows, [9, -1, -1, -1, 3])
        self.assert_activate("activate last(x -> 0) every p initial (9)", rows, [9, -1, -1, -1, 0])

    def test_what_every_holds_has_its_past_all_the_same(self):
        rows = [(1, 0), (2, 1), (3, 0), (4, 0), (5, 1)]
        self.assert_activate("activate sum(x) every (false -> pre p) initial (9)", rows, [9, 9, 3, 3, 3])
        self.assert_activate("activate sum(x) every (tally(x) mod 2 = 0) initial (9)", rows, [9, 2, 2, 6, 6])

    def test_only_that_instance(self):
        rows = [(1, 0), (2, 1), (3, 0)]
        self.assert_activate("activate sum(x) every p initial (0) + 100 * sum(x)", rows, [100, 302, 602])

    def test_of_several_outputs(self):
        text = NODES + (
            "node f(x: int; p: bool) returns (a: int; b: bool; c: int);"
            " let (a, b, c) = activate pair(x, p) every p initial (-1, true, -3); tel"
        )
        told = [(-1, 1, -3), (3, 0, 0), (3, 0, 0), (5, 0, 3), (5, 0, 3)]
        self.assert_told(text, [(1, 0), (2, 1), (3, 0), (4, 1), (5, 0)], told)
        text = text.replace("true", "false")
        self.assert_told(text, [(1, 0), (2, 1)], [(-1, 0, -3), (3, 0, 0)])

    def test_what_is_held_may_be_looked_back_at(self):
        rows = [(1, 0), (2, 1), (3, 0), (4, 1), (5, 0)]
        self.assert_activate("0 -> pre (activate sum(x) every p initial (9))", rows, [0, 9, 2, 2, 6])
        self.assert_activate("activate sum(0 fby y) every p initial (1)", rows, [1, 1, 1, 2, 2])

    def test_two_of_the_same_node(self):
        rows = [(1, 0), (2, 1), (3, 0), (4, 1)]
        both = "activate sum(x) every p initial (7) + 100 * activate sum(x) every not p initial (8)"
        self.assert_activate(both, rows, [107, 102, 402, 406])

    def test_in_a_part_that_is_not_taken(self):
        rows = [(1, 1), (2, 0), (3, 1), (4, 0)]
        self.assert_activate("if p then 0 else activate sum(x) every p initial (9)", rows, [0, 1, 0, 4])

    def test_an_arrow_within_begins_with_the_instance(self):
        more = "node one(x: int) returns (y: int); let y = x -> 0; tel\n"
        self.assert_activate(
            "activate one(x) every p initial (9)", [(1, 0), (2, 0), (3, 1), (4, 0), (5, 1)], [9, 9, 3, 3, 0], more)


class Within(RunCase):
    """reset and activate in nodes that are themselves reset or activated."""

    ACT = "node act(x: int; p: bool) returns (y: int); let y = activate sum(x) every p initial (-5); tel\n"
    RES = "node res(x: int; p: bool) returns (y: int); let y = reset sum(x) every p; tel\n"

    def assert_within(self, right, rows, told, more=""):
        text = NODES + self.ACT + self.RES + more
        text += "node f(x: int; p, q: bool) returns (y: int); let y = %s; tel\n" % right
        self.assert_told(text, rows, [[number] for number in told])

    ROWS = [(1, 0, 0), (2, 1, 0), (3, 1, 0), (4, 0, 1), (5, 0, 0), (6, 1, 0), (7, 1, 1), (8, 0, 1), (9, 1, 1)]

    def test_activate_in_reset(self):
        # What initial says comes back where the instance that it stands in begins anew.
        self.assert_within("reset act(x, p) every q", self.ROWS, [-5, 2, 5, -5, -5, 6, 7, -5, 9])

    def test_activate_in_activate(self):
        self.assert_within("activate act(x, p) every q initial (-6)", self.ROWS, [-6, -6, -6, -5, -5, -5, 7, 7, 16])

    def test_reset_in_reset(self):
        self.assert_within("reset res(x, p) every q", self.ROWS, [1, 2, 3, 4, 9, 6, 7, 8, 9])
        self.assert_within("reset res(x, p and q) every q", self.ROWS, [1, 3, 6, 4, 9, 15, 7, 8, 9])

    def test_reset_in_activate(self):
        self.assert_within("activate res(x, p) every q initial (-6)", self.ROWS, [-6, -6, -6, 4, 4, 4, 7, 15, 9])

    def test_one_that_is_never_let_and_reset(self):
        self.assert_within("reset act(x, false) every q", self.ROWS, [-5] * 9)

    def test_activate_in_activate_in_reset(self):
        more = (
            "node mid(x: int; p: bool) returns (y: int);"
            " let y = activate act(x, x mod 2 = 0) every p initial (-6) + 100 * tally(x); tel\n"
        )
        # act goes on at 2, 3, 6, 7, 9 (p), its sum at even x of these; all is anew at 4, 7, 8, 9 (q).
        told = [94, 202, 302, 94, 194, 306, 95, 94, 95]
        self.assert_within("reset mid(x, p) every q", self.ROWS, told, more)

    def test_reset_of_one_that_is_not_let(self):
        # The reset stands in what's activated: where that doesn't go on nothing in it begins anew.
        more = "node mid(x: int; p: bool) returns (y: int); let y = res(x, p); tel\n"
        rows = [(1, 0, 1), (2, 1, 0), (3, 0, 1), (4, 1, 0), (5, 0, 1)]
        self.assert_within("activate mid(x, p) every q initial (0)", rows, [1, 1, 4, 4, 9], more)

    def test_reset_behind_pre_in_reset(self):
        more = "node mid(x: int; p: bool) returns (y: int); let y = 0 fby reset sum(x) every p; tel\n"
        self.assert_within("reset mid(x, p) every q", self.ROWS, [0, 1, 2, 0, 4, 9, 0, 0, 0], more)

    def test_two_levels_down(self):
        more = (
            "node low(x: int) returns (y: int); let y = sum(x) + sum(tally(x)) * 100; tel\n"
            "node mid(x: int; p: bool) returns (y: int); let y = low(x) + reset low(x) every p * 10000; tel\n"
        )
        rows = [(1, 0, 0), (1, 0, 0), (1, 1, 0), (1, 0, 0), (1, 0, 1), (1, 0, 0)]
        low = [101, 302, 603, 1004]
        told = [low[a] + 10000 * low[b] for a, b in ((0, 0), (1, 1), (2, 0), (3, 1), (0, 0), (1, 1))]
        self.assert_within("reset mid(x, p) every q", rows, told, more)
