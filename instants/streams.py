"""The calls: order."""

from instants.circles import working_order
from instants.reading import read_nodes
from instants.refusals import Refusal, TooLong, WrongNumber
from instants.rules import hold_to_kept, hold_to_rules

MOST_BYTES = 65536


def held_nodes(text):
    nodes = read_nodes(text)
    hold_to_rules(nodes)
    hold_to_kept(nodes)
    return nodes


def order_line(node):
    words = [node.name]
    for k in working_order(node):
        words.append(str(k))
    return " ".join(words) + "\n"


def ordered_bytes(most, text):
    if most < 0 or len(text) > MOST_BYTES:
        raise WrongNumber()
    lines = "".join([order_line(node) for node in held_nodes(text)])
    if len(lines) > most:
        raise TooLong()
    return [ord(sign) for sign in lines]


def order(most, text):
    try:
        answer = ordered_bytes(most, text)
    except Refusal as e:
        return [e.answer]
    return [len(answer)] + answer
