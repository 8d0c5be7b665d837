"""What `run` refuses, and which refusal comes first where there are several."""

import unittest

from helper import bytes_of
from instants.streams import run
from test_kept import THOUSAND, node

ROOM = 4194304
FIRST = "node f(x: int; p: bool; z: int) returns (y: int; q: bool); let y = x + z; q = not p; tel\n"
TEXT = FIRST + "node g(p: bool) returns (q: bool); let q = p; tel\n"
GIVEN = [1, 0, 5, 2, 1, 6, 3, 0, 7]
TOLD = [3, 6, 1, 8, 0, 10, 1]
WRONG_STEPS = (-1, -2, -2147483648, 65537, 2147483647)
WRONG_MOST = (-1, -2, -2147483648, 4194305, 2147483647)
WRONG_NODE = (-1, -2, -2147483648, 2, 3, 2147483647)


class Refusals(unittest.TestCase):
    def asked(self, node=0, steps=3, most=ROOM, text=TEXT, given=GIVEN):
        return run(node, steps, most, bytes_of(text), list(given))

    def test_nothing_wrong(self):
        self.assertEqual(self.asked(), TOLD)

    def test_steps(self):
        for steps in WRONG_STEPS:
            self.assertEqual(self.asked(steps=steps), [-2])
            self.assertEqual(self.asked(steps=steps, given=[]), [-2])

    def test_most(self):
        for most in WRONG_MOST:
            self.assertEqual(self.asked(most=most), [-2])
        self.assertEqual(self.asked(most=4194304), TOLD)

    def test_more_bytes_than_a_text_has(self):
        self.assertEqual(self.asked(text=TEXT + " " * (65536 - len(TEXT))), TOLD)
        self.assertEqual(self.asked(text=TEXT + " " * (65537 - len(TEXT))), [-2])

    def test_wrong_numbers_come_before_a_wrong_text(self):
        for text in ("", "node $", "x" * 32, TEXT.replace("x + z", "w"), TEXT + "node"):
            for steps in WRONG_STEPS:
                self.assertEqual(self.asked(steps=steps, text=text), [-2])
            for most in WRONG_MOST:
                self.assertEqual(self.asked(most=most, text=text), [-2])

    def test_wrong_tokens_come_before_all_behind(self):
        text = TEXT.replace("x + z", "w") + "node h(x: int) ?"
        self.assertEqual(self.asked(node=9, most=0, text=text, given=[1]), [-100 - text.index("?")])
        self.assertEqual(self.asked(node=9, most=0, text="", given=[1]), [-100])

    def test_limits_come_with_the_tokens(self):
        broken = TEXT.replace("x + z", "w")
        self.assertEqual(self.asked(node=9, most=0, text=broken + "n" * 32 + " ?", given=[1]), [-5])
        self.assertEqual(self.asked(node=9, most=0, text=broken + "? " + "n" * 32, given=[1]), [-100 - len(TEXT) + 4])

    def test_broken_rules_come_before_too_much_kept(self):
        much = THOUSAND + node("c", [("b", 1000)], 0)
        broken = much + "node d(x: int) returns (y: int); let y = w; tel"
        self.assertEqual(self.asked(node=9, most=0, text=broken, given=[1]), [-1000000 - broken.index("w;")])
        circle = much + "node d(x: int) returns (y: int); let y = y; tel"
        self.assertEqual(self.asked(node=9, most=0, text=circle, given=[1]), [-1000000 - circle.index("y = y")])

    def test_too_much_kept_comes_before_a_node_that_is_none(self):
        much = THOUSAND + node("c", [("b", 1000)], 0)
        for k in (-1, 0, 2, 3):
            self.assertEqual(self.asked(node=k, most=0, text=much, given=[1]), [-5])
            self.assertEqual(self.asked(node=k, steps=1, text=much, given=[1]), [-5])

    def test_a_node_that_is_none(self):
        for k in WRONG_NODE:
            self.assertEqual(self.asked(node=k), [-3])
            self.assertEqual(self.asked(node=k, steps=0, given=[]), [-3])

    def test_a_node_that_is_none_comes_before_what_is_given(self):
        for k in WRONG_NODE:
            self.assertEqual(self.asked(node=k, given=[7], most=0), [-3])
            self.assertEqual(self.asked(node=k, given=[7] * 9, most=0), [-3])

    def test_as_many_given_as_inputs(self):
        for given in ([], GIVEN[:1], GIVEN[:6], GIVEN[:8], GIVEN + [0], GIVEN + [1, 0, 5]):
            self.assertEqual(self.asked(given=given), [-4])
        for steps in (0, 1, 2, 4, 9, 10000):
            self.assertEqual(self.asked(steps=steps), [-4])
        self.assertEqual(self.asked(node=1), [-4])
        self.assertEqual(self.asked(node=1, given=[1, 0, 1]), [3, 1, 0, 1])

    def test_a_bool_is_0_or_1(self):
        for number in (2, -1, 3, 2147483647, -2147483648):
            for place in (1, 4, 7):
                given = GIVEN[:place] + [number] + GIVEN[place + 1:]
                self.assertEqual(self.asked(given=given), [-4])
                self.assertEqual(self.asked(given=given, most=0), [-4])

    def test_an_int_is_any_number(self):
        for number in (2, -1, 2147483647, -2147483648):
            for place, sums in ((0, (number + 5, 8, 10)), (5, (6, 2 + number, 10))):
                given = GIVEN[:place] + [number] + GIVEN[place + 1:]
                answer = self.asked(given=given)
                wrapped = [(s + 2 ** 31) % 2 ** 32 - 2 ** 31 for s in sums]
                self.assertEqual(answer[1::2], wrapped)

    def test_most_just_as_many_as_outputs_and_one_less(self):
        self.assertEqual(self.asked(most=6), TOLD)
        self.assertEqual(self.asked(most=7), TOLD)
        for most in (5, 4, 3, 2, 1, 0):
            self.assertEqual(self.asked(most=most), [-1])
        self.assertEqual(self.asked(node=1, most=3, given=[1, 0, 1]), [3, 1, 0, 1])
        self.assertEqual(self.asked(node=1, most=2, given=[1, 0, 1]), [-1])

    def test_what_is_given_comes_before_most(self):
        self.assertEqual(self.asked(most=0, given=GIVEN[:8]), [-4])
        self.assertEqual(self.asked(most=0, given=GIVEN + [1]), [-4])
        self.assertEqual(self.asked(most=0, given=[1, 0, 5, 2, 1, 6, 3, 2, 7]), [-4])

    def test_no_steps(self):
        self.assertEqual(self.asked(steps=0, given=[]), [0])
        self.assertEqual(self.asked(steps=0, given=[], most=0), [0])
        self.assertEqual(self.asked(node=1, steps=0, given=[], most=0), [0])
        for given in ([0], [1, 0, 5]):
            self.assertEqual(self.asked(steps=0, given=given), [-4])
            self.assertEqual(self.asked(steps=0, given=given, most=0), [-4])

    def test_what_any_node_breaks_is_refused_whichever_is_run(self):
        text = FIRST + "node g(p: bool) returns (q: int); let q = p; tel\n"
        self.assertEqual(self.asked(text=text), [-1000000 - text.rindex("= p")])
        text = FIRST + THOUSAND + node("c", [("b", 1000)], 0)
        self.assertEqual(self.asked(text=text), [-5])
        text = FIRST + THOUSAND + node("c", [("b", 999)], 999)
        self.assertEqual(self.asked(text=text), TOLD)
