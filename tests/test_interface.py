"""What goes in stays as it was, nothing is kept, and what comes out is a list of whole numbers."""

import builtins
import contextlib
import inspect
import io
import unittest
from unittest import mock

from helper import OrderCase, bool_is, bytes_of, int_is, node_f
from instants.streams import broken, order, run

TEXTS = (
    int_is("0 -> pre x"),
    bool_is("activate flip(p) every q initial (true)"),
    int_is("x + p"),
    node_f("y = y; r = true;"),
    "",
    "node",
    "x" * 32,
)


class Interface(OrderCase):
    def test_the_text_is_as_it_was(self):
        for text in TEXTS:
            for most in (-1, 0, 1000):
                given = bytes_of(text)
                order(most, given)
                self.assertEqual(given, bytes_of(text))

    def test_the_same_call_answers_the_same(self):
        firsts = [order(1000, bytes_of(text)) for text in TEXTS]
        for text, first in zip(TEXTS, firsts):
            for other in TEXTS:
                order(1000, bytes_of(other))
                self.assertEqual(order(1000, bytes_of(text)), first)

    def test_an_answer_may_be_changed(self):
        first = order(1000, bytes_of(TEXTS[0]))
        kept = list(first)
        first.clear()
        self.assertEqual(order(1000, bytes_of(TEXTS[0])), kept)

    def test_the_answer_is_a_list_of_whole_numbers(self):
        for text in TEXTS:
            for most in (-1, 0, 1000):
                answer = order(most, bytes_of(text))
                self.assertIs(type(answer), list)
                self.assertTrue(answer)
                for number in answer:
                    self.assertIs(type(number), int)

    def test_refusals_are_alone_and_others_as_long_as_they_say(self):
        for text in TEXTS:
            answer = order(1000, bytes_of(text))
            self.assertEqual(len(answer), 1 + max(answer[0], 0))

    def test_both_by_name(self):
        self.assertEqual(order(most=0, text=[]), [-100])

    def test_more_bytes_than_a_text_has(self):
        self.assertEqual(order(10, [32] * 65537), [-2])
        self.assertEqual(order(10, [32] * 65536), [-65636])


class Held(list):
    """A list that tells when it's to be changed."""

    def refuse(self, *args):
        raise AssertionError("changed")

    append = extend = insert = pop = remove = clear = sort = reverse = refuse
    __setitem__ = __delitem__ = __iadd__ = __imul__ = refuse


# Calls of run, as a text, a node, steps, most and what's given.
SUMS = "node sum(x: int; p: bool) returns (y: int; q: bool); let y = (0 fby y) + x; q = not (true -> pre p); tel\n"
HELD = SUMS + (
    "node f(x: int; p: bool) returns (y: int; q: bool; r: bool);"
    " let (y, q) = activate sum(x, p) every p initial (-3, true); r = q and x < 5; tel\n"
)
CALLS = (
    (SUMS, 0, 3, 100, [1, 0, 2, 1, 3, 0]),
    (HELD, 1, 3, 100, [1, 0, 2, 1, 3, 1]),
    (HELD, 0, 0, 0, []),
    (HELD, 2, 1, 100, [1, 0]),
    (HELD, 1, 1, 100, [1, 2]),
    (HELD, 1, 1, 2, [1, 1]),
    (HELD, 1, -1, 2, [1, 1]),
    (int_is("x + p"), 0, 1, 100, [1]),
    ("", 0, 1, 100, [1]),
    ("x" * 32, 0, 1, 100, [1]),
)


def asked(call):
    text, node, steps, most, given = call
    return run(node, steps, most, bytes_of(text), list(given))


class RunInterface(unittest.TestCase):
    def test_what_is_handed_in_is_as_it_was(self):
        for text, node, steps, most, given in CALLS:
            first, second = bytes_of(text), list(given)
            run(node, steps, most, first, second)
            self.assertEqual((first, second), (bytes_of(text), given))

    def test_what_is_handed_in_is_not_changed_for_a_while_either(self):
        for text, node, steps, most, given in CALLS:
            answer = run(node, steps, most, Held(bytes_of(text)), Held(given))
            self.assertEqual(answer, asked((text, node, steps, most, given)))

    def test_the_same_call_answers_the_same(self):
        firsts = [asked(call) for call in CALLS]
        for call, first in zip(CALLS, firsts):
            for other in CALLS:
                asked(other)
                order(100, bytes_of(other[0]))
                self.assertEqual(asked(call), first)

    def test_an_answer_may_be_changed(self):
        for call in CALLS:
            first = asked(call)
            kept = list(first)
            first.clear()
            self.assertEqual(asked(call), kept)

    def test_the_answer_is_a_list_of_whole_numbers(self):
        for call in CALLS:
            answer = asked(call)
            self.assertIs(type(answer), list)
            self.assertTrue(answer)
            for number in answer:
                self.assertIs(type(number), int)

    def test_truth_values_are_told_as_0_and_1(self):
        rights = "p, not p, p and q, p or q, p xor q, p => q, p = q, x < 1, x <= 1, x > 1, x >= 1, x = 1, x <> 1, true"
        rights += ", false, p -> q, p fby q, false -> pre p, if p then q else p"
        for right in rights.split(", "):
            text = "node f(p, q: bool; x: int) returns (r: bool); let r = %s; tel" % right
            answer = run(0, 4, 100, bytes_of(text), [0, 0, 0, 1, 0, 1, 0, 1, 2, 1, 1, 3])
            for number in answer:
                self.assertIs(type(number), int)
            self.assertLessEqual(set(answer[1:]), {0, 1})

    def test_refusals_are_alone_and_others_as_long_as_they_say(self):
        for call in CALLS:
            answer = asked(call)
            outputs = {SUMS: 2, HELD: 3 if call[1] == 1 else 2}.get(call[0], 0)
            self.assertEqual(len(answer), 1 + outputs * max(answer[0], 0))

    def test_all_by_name(self):
        text = bytes_of("node f(x: int) returns (y: int); let y = x + 1; tel")
        self.assertEqual(run(node=0, steps=2, most=2, text=text, given=[1, 2]), [2, 2, 3])


SOON = SUMS + (
    "node g(p, q: bool) returns (r: bool; n: int); var m: int; s: bool;"
    " let (m, s) = reset sum(if p then 2 else 1, p) every q; n = m; r = n < 5 or s; tel\n"
    "node h(p: bool) returns (r: bool); let r = p or not p; tel\n"
)
# Calls of broken, as a text, a node and most.
ASKED = (
    (SOON, 1, 10),
    (SOON, 1, 2),
    (SOON, 2, 20),
    (SOON, 0, 3),
    (SOON, 3, 3),
    (SOON, 1, 11),
    (SOON, 1, 0),
    (SOON, 1, 21),
    (int_is("x + p"), 0, 1),
    (int_is("x + 1"), 4, 1),
    (bool_is("p"), 1, 5),
    ("", 0, 1),
    ("x" * 32, 0, 1),
)


def looked_for(call):
    text, node, most = call
    return broken(node, most, bytes_of(text))


class BrokenInterface(unittest.TestCase):
    def test_what_is_handed_in_is_as_it_was(self):
        for text, node, most in ASKED:
            given = bytes_of(text)
            broken(node, most, given)
            self.assertEqual(given, bytes_of(text))
            self.assertEqual(broken(node, most, Held(given)), looked_for((text, node, most)))

    def test_the_answers(self):
        answers = [looked_for(call) for call in ASKED]
        self.assertEqual(answers[:8], [[3, 0, 1, 1], [0], [0], [-4], [-3], [-4], [-2], [-2]])
        self.assertEqual(answers[9:], [[-4], [1, 1], [-100], [-5]])

    def test_the_same_call_answers_the_same(self):
        firsts = [looked_for(call) for call in ASKED]
        for call, first in zip(ASKED, firsts):
            for other in ASKED:
                looked_for(other)
                self.assertEqual(looked_for(call), first)

    def test_an_answer_may_be_changed(self):
        for call in ASKED:
            first = looked_for(call)
            kept = list(first)
            first.clear()
            self.assertEqual(looked_for(call), kept)

    def test_the_answer_is_a_list_of_whole_numbers(self):
        for call in ASKED:
            answer = looked_for(call)
            self.assertIs(type(answer), list)
            self.assertTrue(answer)
            for number in answer:
                self.assertIs(type(number), int)

    def test_refusals_are_alone_and_others_as_long_as_they_say(self):
        for call in ASKED:
            answer = looked_for(call)
            self.assertEqual(len(answer), 1 + max(answer[0], 0))

    def test_all_by_name(self):
        text = bytes_of("node f(x: bool) returns (y: bool); let y = not x; tel")
        self.assertEqual(broken(node=0, most=2, text=text), [1, 1])


class AllThree(unittest.TestCase):
    def answers(self):
        told = [order(1000, bytes_of(text)) for text in TEXTS]
        told += [asked(call) for call in CALLS]
        return told + [looked_for(call) for call in ASKED]

    def test_their_names_and_what_they_are_given(self):
        for call, names in ((order, "most text"), (run, "node steps most text given"), (broken, "node most text")):
            self.assertEqual(list(inspect.signature(call).parameters), names.split())

    def test_with_the_others_in_between(self):
        firsts = self.answers()
        for _ in range(2):
            self.assertEqual(self.answers(), firsts)
        told = [looked_for(call) for call in ASKED[::-1]] + [asked(call) for call in CALLS[::-1]]
        told += [order(1000, bytes_of(text)) for text in TEXTS[::-1]]
        self.assertEqual(told[::-1], firsts)

    def test_the_same_text_for_all(self):
        text = bytes_of(SOON)
        for _ in range(2):
            self.assertEqual(order(100, text), [20] + bytes_of("sum 0 1\ng 0 1 2\nh 0\n"))
            self.assertEqual(run(1, 3, 100, text, [0, 0, 1, 0, 1, 0])[1::2], [1, 1, 0])
            self.assertEqual(broken(1, 3, text), [3, 0, 1, 1])
        self.assertEqual(text, bytes_of(SOON))

    def test_nothing_is_printed_read_or_imported(self):
        firsts = self.answers()

        def refuse(*args, **more):
            raise AssertionError("read or imported")
        told = io.StringIO()
        names = ("open", "input", "__import__", "exec", "eval", "compile")
        with contextlib.ExitStack() as stack:
            for stream in (contextlib.redirect_stdout, contextlib.redirect_stderr):
                stack.enter_context(stream(told))
            for name in names:
                stack.enter_context(mock.patch.object(builtins, name, refuse))
            answers = self.answers()
        self.assertEqual(answers, firsts)
        self.assertEqual(told.getvalue(), "")
