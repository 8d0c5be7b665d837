"""What breaks a node: the soonest, and of these the first in order."""

import random

from helper import BrokenCase

COUNT = "node count(p: bool) returns (n: int); let n = (0 fby n) + (if p then 1 else 0); tel\n"
BEFORE = "node before(p: bool) returns (q: bool); let q = false -> pre p; tel\n"


def one(right, inputs="a", inner=""):
    """A node f with these inputs, and with this for its output."""
    return "node f(%s: bool) returns (r: bool); %s let r = %s; tel\n" % (inputs, inner, right)


def turned(number, width):
    """By this the bytes of an instant come in order: the first input, bit 0, counts most."""
    return [number >> k & 1 for k in range(width)]


def told_before(width, sequence):
    return [bit for number in sequence for bit in turned(number, width)]


class Soonest(BrokenCase):
    def test_never(self):
        for right in ("true", "a or not a", "a = a", "true -> pre true", "1 < 2", "count(a) >= 0", "not (a and not a)"):
            self.assert_kept(COUNT + one(right), 1)
            self.assert_kept(COUNT + one(right), 20)

    def test_at_the_first_instant(self):
        self.assert_soonest(one("false"), [0])
        self.assert_soonest(one("a"), [0])
        self.assert_soonest(one("not a"), [1])
        self.assert_soonest(one("not a -> true"), [1])
        self.assert_soonest(one("not a fby true"), [1])

    def test_at_the_second_instant(self):
        self.assert_soonest(one("true -> false"), [0, 0])
        self.assert_soonest(one("true -> not a"), [0, 1])
        self.assert_soonest(one("true -> pre not a"), [1, 0])
        self.assert_soonest(one("true fby a"), [0, 0])
        self.assert_soonest(one("true -> a or pre a"), [0, 0])
        self.assert_soonest(one("true -> a = pre a"), [0, 1])
        self.assert_soonest(one("true -> not a or pre not a"), [1, 1])

    def test_at_each_instant_up_to_the_last_that_may_be(self):
        for k in range(1, 21):
            self.assert_soonest(COUNT + one("count(a) < %d" % k), [1] * k)
            self.assert_soonest(COUNT + one("count(not a) < %d" % k), [0] * k)
            self.assert_soonest(COUNT + one("count(true) < %d" % k), [0] * k)

    def test_one_instant_later(self):
        for k in (1, 2, 5, 19):
            self.assert_kept(COUNT + one("count(true) <> %d" % (k + 1)), k)
            self.assert_found(COUNT + one("count(true) <> %d" % (k + 1)), k + 1, [0] * (k + 1))
        self.assert_kept(COUNT + one("count(a) < 21"), 20)

    def test_only_once(self):
        self.assert_soonest(COUNT + one("count(true) <> 3 or not a"), [0, 0, 1])
        self.assert_soonest(COUNT + one("count(true) <> 3 or count(a) <> 1"), [0, 0, 1])
        self.assert_soonest(COUNT + one("count(true) <> 5 or count(a) <> 2"), [0, 0, 0, 1, 1])

    def test_sooner_though_it_comes_later_in_order(self):
        text = COUNT + one("(reset count(true) every a) < 4 and count(a) < 2")
        self.assert_soonest(text, [1, 1])
        text = COUNT + one("count(not a) < 4 and count(a) < 3")
        self.assert_soonest(text, [1, 1, 1])
        text = COUNT + one("count(not a) < 3 and count(a) < 3")
        self.assert_soonest(text, [0, 0, 0])
        text = COUNT + one("count(not a and not b) < 3 and count(a and b) < 2", "a, b")
        self.assert_soonest(text, [3, 3])
        text = COUNT + one("count(true) < 6 and not (a and count(true) = 5)")
        self.assert_soonest(text, [0, 0, 0, 0, 1])

    def test_both_instants_and_bytes_end_with_the_soonest(self):
        text = COUNT + one("count(a) < 2")
        for most in (2, 3, 7, 20):
            self.assertEqual(self.asked(text, most), [2, 1, 1])


class FirstInOrder(BrokenCase):
    def of_table(self, width, numbers):
        """False at the first instant, just where its byte is one of these."""
        names = [chr(97 + k) for k in range(width)]
        cases = []
        for number in numbers:
            signs = ["" if bit else "not " for bit in turned(number, width)]
            cases.append("(" + " and ".join(sign + name for sign, name in zip(signs, names)) + ")")
        return one("not (%s)" % " or ".join(cases or ["false"]), ", ".join(names))

    def test_an_instants_order_with_two_inputs(self):
        order = [0, 2, 1, 3]
        for chosen in range(16):
            numbers = [k for k in range(4) if chosen >> k & 1]
            text = self.of_table(2, numbers)
            if numbers:
                self.assert_soonest(text, [k for k in order if k in numbers][:1])
            else:
                self.assert_kept(text, 10)

    def test_an_instants_order_with_three_inputs(self):
        order = [0, 4, 2, 6, 1, 5, 3, 7]
        for chosen in range(1, 256):
            numbers = [k for k in range(8) if chosen >> k & 1]
            self.assert_found(self.of_table(3, numbers), 2, [k for k in order if k in numbers][:1])

    def test_an_instants_order_with_eight_inputs(self):
        self.assert_found(self.of_table(8, [1, 2]), 1, [2])
        self.assert_found(self.of_table(8, [1, 2, 4, 8, 16, 32, 64, 128]), 2, [128])
        self.assert_found(self.of_table(8, [127, 254]), 2, [254])
        self.assert_found(self.of_table(8, [3, 128 + 1, 5]), 2, [129])
        chance = random.Random(8)
        for _ in range(60):
            numbers = chance.sample(range(256), chance.randint(1, 9))
            first = min(numbers, key=lambda number: turned(number, 8))
            self.assert_found(self.of_table(8, numbers), 2, [first])

    def of_sequences(self, width, sequences):
        """False at the last instant of these sequences of bytes, all as long, and nowhere else."""
        names = [chr(97 + k) for k in range(width)]
        size = len(sequences[0])
        byte = " + ".join("(if %s then %d else 0)" % (name, 1 << k) for k, name in enumerate(names))
        codes = []
        for sequence in sequences:
            code = 0
            for number in sequence:
                code = code * (1 << width) + number
            codes.append("past = %d" % code)
        return COUNT + (
            "node f(%s: bool) returns (r: bool); var past: int;"
            " let past = (0 fby past) * %d + %s; r = not (count(true) = %d and (%s)); tel"
        ) % (", ".join(names), 1 << width, byte, size, " or ".join(codes))

    def assert_first_of(self, width, sequences, first):
        self.assert_found(self.of_sequences(width, sequences), 20 // width, first)
        self.assert_found(self.of_sequences(width, sequences[::-1]), len(first), first)

    def test_the_first_instant_counts_most(self):
        self.assert_first_of(1, [[0, 1, 1], [1, 0, 0]], [0, 1, 1])
        self.assert_first_of(1, [[1, 0, 1], [1, 1, 0]], [1, 0, 1])
        self.assert_first_of(2, [[2, 3], [1, 0]], [2, 3])
        self.assert_first_of(2, [[3, 0], [1, 3]], [1, 3])
        self.assert_first_of(2, [[0, 1, 2], [0, 2, 1]], [0, 2, 1])
        self.assert_first_of(3, [[1, 0], [4, 7], [2, 0]], [4, 7])
        self.assert_first_of(3, [[1, 1, 1], [1, 1, 6], [1, 3, 0]], [1, 1, 6])
        self.assert_first_of(8, [[1, 0], [254, 255]], [254, 255])
        self.assert_first_of(8, [[77, 3], [77, 5], [77, 129]], [77, 129])

    def test_sequences_by_chance(self):
        for width, size, seed in ((1, 20, 1), (2, 4, 2), (2, 10, 3), (3, 3, 4), (3, 6, 5), (4, 5, 6), (5, 4, 7), (8, 2, 8)):
            chance = random.Random(seed)
            for _ in range(5):
                start = [chance.randrange(1 << width) for _ in range(chance.randrange(size))]
                sequences = []
                for _ in range(4):
                    sequences.append(start + [chance.randrange(1 << width) for _ in range(size - len(start))])
                first = min(sequences, key=lambda sequence: told_before(width, sequence))
                self.assert_first_of(width, sequences, first)

    def test_what_has_no_say_is_false(self):
        self.assert_soonest(one("true fby true fby not c", "a, b, c"), [4, 0, 0])
        self.assert_soonest(one("not b", "a, b"), [2])
        self.assert_soonest(one("a", "a, b"), [0])


class Nodes(BrokenCase):
    def test_pre(self):
        self.assert_soonest(one("true -> not pre a or a"), [1, 0])
        self.assert_soonest(one("true -> pre (true -> not pre a)"), [1, 0, 0])
        self.assert_soonest(one("true -> pre (true -> pre (true -> a))"), [0] * 4)
        self.assert_soonest(one("true -> pre (a or b) or not a", "a, b"), [0, 1])

    def test_fby(self):
        self.assert_soonest(one("true fby not a"), [1, 0])
        self.assert_soonest(one("true fby true fby true fby not a"), [1, 0, 0, 0])
        self.assert_soonest(one("not (x and y)", "a", "var x, y: bool;").replace(
            "let", "let x = false fby a; y = false fby x;"), [1, 1, 0])

    def test_an_arrow(self):
        self.assert_soonest(one("a or b -> not a", "a, b"), [0])
        self.assert_soonest(one("true -> a -> b", "a, b"), [0, 0])
        self.assert_soonest(one("true -> a => b", "a, b"), [0, 1])

    def test_calls_have_their_own_past(self):
        self.assert_soonest(COUNT + one("count(a) + count(b) < 3", "a, b"), [2, 3])
        self.assert_soonest(COUNT + one("count(a) <> 1 or count(b) <> 2", "a, b"), [2, 3])
        self.assert_soonest(COUNT + one("count(a) <= count(b) + 1", "a, b"), [1, 1])
        self.assert_soonest(BEFORE + one("not before(before(a))"), [1, 0, 0])

    def test_reset(self):
        self.assert_soonest(COUNT + one("(reset count(true) every a) < 3"), [0, 0, 0])
        self.assert_soonest(COUNT + one("count(true) <> 4 or (reset count(true) every a) <> 2"), [0, 0, 1, 0])
        self.assert_soonest(COUNT + one("count(true) <> 4 or (reset count(b) every a) <> 2", "a, b"), [0, 0, 2, 2])
        self.assert_soonest(COUNT + one("count(a) < 2 or (reset count(true) every a) <> 3"), [1, 1, 0, 0])
        self.assert_soonest(BEFORE + one("not (reset before(b) every a)", "a, b"), [2, 0])
        self.assert_kept(BEFORE + one("not (reset before(b) every a) or not a", "a, b"), 10)

    def test_activate(self):
        held = COUNT + one("(activate count(a) every b initial (-1)) <> %s", "a, b")
        self.assert_soonest(held % "(-1)", [0])
        self.assert_soonest(held % "0", [2])
        self.assert_soonest(held % "1", [3])
        self.assert_soonest(held % "2", [3, 3])
        self.assert_kept(held % "(-2)", 10)
        # It holds what it had, whatever it's given.
        self.assert_soonest(COUNT + one("count(true) < 4 or (activate count(a) every b initial (0)) <> 1", "a, b"),
                            [0, 0, 0, 3])
        self.assert_soonest(COUNT + one("count(b) <> 1 or b or (activate count(a) every b initial (0)) <> 1", "a, b"),
                            [3, 0])

    def test_what_an_activated_call_is_given_has_its_past_all_the_same(self):
        same = "node same(p: bool) returns (q: bool); let q = p; tel\n"
        self.assert_soonest(same + one("activate same(true -> pre not a) every b initial (true)", "a, b"), [1, 2])
        self.assert_soonest(BEFORE + one("not activate before(a) every b initial (false)", "a, b"), [3, 2])

    def test_activate_within_reset(self):
        text = COUNT + (
            "node on(p, q: bool) returns (n: int); let n = activate count(p) every q initial (7); tel\n"
        ) + one("(reset on(a, b) every c) <> %s", "a, b, c")
        self.assert_soonest(text % "7", [0])
        self.assert_soonest(text % "0", [2])
        self.assert_soonest(text % "2", [3, 3])
        late = COUNT + (
            "node on(p, q: bool) returns (n: int); let n = activate count(p) every q initial (7); tel\n"
        ) + one("count(b) < 2 or (reset on(a, b) every c) <> 7", "a, b, c")
        self.assert_soonest(late, [2, 2, 4])

    def test_reset_within_activate(self):
        text = COUNT + (
            "node anew(p, q: bool) returns (n: int); let n = reset count(p) every q; tel\n"
        ) + one("count(a) < 3 or (activate anew(a, b) every c initial (0)) <> 1", "a, b, c")
        self.assert_soonest(text, [1, 1, 5])
        text = text.replace("count(a) < 3", "count(c) < 3")
        self.assert_soonest(text, [4, 4, 5])

    def test_several_outputs_of_a_call(self):
        text = COUNT + "node two(p, q: bool) returns (n: int; s: bool); let n = count(p); s = false fby q; tel\n"
        text += (
            "node f(a, b: bool) returns (r: bool; m: int); var s: bool;"
            " let (m, s) = two(a, b); r = m < 2 or not s; tel\n"
        )
        self.assert_soonest(text, [3, 1])

    def test_worked_out_from_ints_of_calls(self):
        text = COUNT + "node twice(p: bool) returns (n, m: int); let n = count(p); m = n * n; tel\n"
        text += (
            "node f(a: bool) returns (r: bool); var n, m: int; let (n, m) = twice(a); r = m - n < 12; tel\n"
        )
        self.assert_soonest(text, [1] * 4)

    def test_numbers_go_round(self):
        text = one("h >= 0", "a", "var h: int;").replace("let", "let h = (1 fby h) * (if a then 256 else 1);")
        self.assert_soonest(text.replace("1 fby", "8388608 fby"), [1])
        self.assert_soonest(text.replace("1 fby", "128 fby"), [1, 1, 1])
        self.assert_soonest(text.replace("1 fby", "256 fby").replace("h >= 0", "h <> 0"), [1, 1, 1])
        text = one("h / -1 <> -2147483647 - 1", "a", "var h: int;").replace(
            "let", "let h = (-2147483646 fby h) - (if a then 1 else 0);")
        self.assert_soonest(text, [1, 1])

    def test_a_node_that_is_neither_the_first_nor_the_last(self):
        text = COUNT + one("count(a) < 2") + one("true").replace("node f", "node g") + one("false").replace(
            "node f", "node h")
        self.assertEqual([self.asked(text, 3, k) for k in range(5)], [[-4], [2, 1, 1], [0], [1, 0], [-3]])

    def test_nodes_behind_it_have_no_say(self):
        text = one("a or not a") + one("f(a) and a").replace("node f", "node g")
        self.assertEqual(self.asked(text, 20, 0), [0])
        self.assertEqual(self.asked(text, 20, 1), [1, 0])

    def test_only_the_first_output_counts(self):
        text = "node f(a: bool) returns (r, s: bool; n: int); let s = false; r = count(a) < 3; n = 0; tel"
        self.assert_soonest(COUNT + text, [1, 1, 1])
        text = "node f(a: bool) returns (r: bool; s: bool); let s = true; r = not a; tel"
        self.assert_soonest(text, [1])

    def test_nodes_that_count(self):
        text = COUNT + one("count(a) < %d or count(b) < %d", "a, b")
        self.assert_soonest(text % (1, 1), [3])
        self.assert_soonest(text % (1, 3), [2, 2, 3])
        self.assert_soonest(text % (3, 1), [1, 1, 3])
        self.assert_soonest(text % (3, 2), [1, 3, 3])
        text = COUNT + one("count(a and not (false fby a)) < 3")
        self.assert_soonest(text, [1, 0, 1, 0, 1])
