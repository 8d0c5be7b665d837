"""What goes in stays as it was, nothing is kept, and what comes out is a list of whole numbers."""

from helper import OrderCase, bool_is, bytes_of, int_is, node_f
from instants.streams import order

TEXTS = (
    int_is("0 -> pre x"),
    bool_is("activate flip(p) every q initial (true)"),
    int_is("x + p"),
    node_f("y = y; r = true;"),
    "",
    "node",
    "x" * 32,
)


class Interface(OrderCase):
    def test_the_text_is_as_it_was(self):
        for text in TEXTS:
            for most in (-1, 0, 1000):
                given = bytes_of(text)
                order(most, given)
                self.assertEqual(given, bytes_of(text))

    def test_the_same_call_answers_the_same(self):
        firsts = [order(1000, bytes_of(text)) for text in TEXTS]
        for text, first in zip(TEXTS, firsts):
            for other in TEXTS:
                order(1000, bytes_of(other))
                self.assertEqual(order(1000, bytes_of(text)), first)

    def test_an_answer_may_be_changed(self):
        first = order(1000, bytes_of(TEXTS[0]))
        kept = list(first)
        first.clear()
        self.assertEqual(order(1000, bytes_of(TEXTS[0])), kept)

    def test_the_answer_is_a_list_of_whole_numbers(self):
        for text in TEXTS:
            for most in (-1, 0, 1000):
                answer = order(most, bytes_of(text))
                self.assertIs(type(answer), list)
                self.assertTrue(answer)
                for number in answer:
                    self.assertIs(type(number), int)

    def test_refusals_are_alone_and_others_as_long_as_they_say(self):
        for text in TEXTS:
            answer = order(1000, bytes_of(text))
            self.assertEqual(len(answer), 1 + max(answer[0], 0))

    def test_both_by_name(self):
        self.assertEqual(order(most=0, text=[]), [-100])

    def test_more_bytes_than_a_text_has(self):
        self.assertEqual(order(10, [32] * 65537), [-2])
        self.assertEqual(order(10, [32] * 65536), [-65636])
