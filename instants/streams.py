"""The calls: order, run and broken."""

from instants.circles import working_order
from instants.making import made_program
from instants.reading import read_nodes
from instants.refusals import NoNode, Refusal, TooLong, WrongNumber
from instants.rules import hold_to_kept, hold_to_rules
from instants.running import hold_given, run_program
from instants.searching import hold_searched, soonest_break

MOST_BYTES = 65536
MOST_STEPS = 65536
MOST_VALUES = 4194304
MOST_INSTANTS = 20


def held_nodes(text):
    nodes = read_nodes(text)
    hold_to_rules(nodes)
    hold_to_kept(nodes)
    return nodes


# The text's nodes as far as this one: those behind it are of no use to it.
def nodes_to(node, text):
    nodes = held_nodes(text)
    if not 0 <= node < len(nodes):
        raise NoNode()
    return nodes[:node + 1]


def order_line(node):
    words = [node.name]
    for k in working_order(node):
        words.append(str(k))
    return " ".join(words) + "\n"


def ordered_bytes(most, text):
    if most < 0 or len(text) > MOST_BYTES:
        raise WrongNumber()
    lines = "".join([order_line(node) for node in held_nodes(text)])
    if len(lines) > most:
        raise TooLong()
    return [ord(sign) for sign in lines]


def order(most, text):
    try:
        answer = ordered_bytes(most, text)
    except Refusal as e:
        return [e.answer]
    return [len(answer)] + answer


def hold_numbers(steps, most, text, given):
    if not 0 <= steps <= MOST_STEPS or not 0 <= most <= MOST_VALUES:
        raise WrongNumber()
    if len(text) > MOST_BYTES or len(given) > MOST_VALUES:
        raise WrongNumber()


def output_values(node, steps, most, text, given):
    hold_numbers(steps, most, text, given)
    nodes = nodes_to(node, text)
    hold_given(nodes[-1], steps, given)
    if steps * len(nodes[-1].outputs) > most:
        raise TooLong()
    return run_program(made_program(nodes), steps, given)


def run(node, steps, most, text, given):
    try:
        answer = output_values(node, steps, most, text, given)
    except Refusal as e:
        return [e.answer]
    return [steps] + answer


def breaking_bytes(node, most, text):
    if not 1 <= most <= MOST_INSTANTS or len(text) > MOST_BYTES:
        raise WrongNumber()
    nodes = nodes_to(node, text)
    hold_searched(nodes[-1], most)
    return soonest_break(made_program(nodes), most)


def broken(node, most, text):
    try:
        answer = breaking_bytes(node, most, text)
    except Refusal as e:
        return [e.answer]
    return [len(answer)] + answer
