"""The calls: order and run."""

from instants.circles import working_order
from instants.making import made_program
from instants.reading import read_nodes
from instants.refusals import NoNode, Refusal, TooLong, WrongNumber
from instants.rules import hold_to_kept, hold_to_rules
from instants.running import hold_given, run_program

MOST_BYTES = 65536
MOST_STEPS = 65536
MOST_VALUES = 4194304


def held_nodes(text):
    nodes = read_nodes(text)
    hold_to_rules(nodes)
    hold_to_kept(nodes)
    return nodes


def order_line(node):
    words = [node.name]
    for k in working_order(node):
        words.append(str(k))
    return " ".join(words) + "\n"


def ordered_bytes(most, text):
    if most < 0 or len(text) > MOST_BYTES:
        raise WrongNumber()
    lines = "".join([order_line(node) for node in held_nodes(text)])
    if len(lines) > most:
        raise TooLong()
    return [ord(sign) for sign in lines]


def order(most, text):
    try:
        answer = ordered_bytes(most, text)
    except Refusal as e:
        return [e.answer]
    return [len(answer)] + answer


def hold_numbers(steps, most, text, given):
    if not 0 <= steps <= MOST_STEPS or not 0 <= most <= MOST_VALUES:
        raise WrongNumber()
    if len(text) > MOST_BYTES or len(given) > MOST_VALUES:
        raise WrongNumber()


def output_values(node, steps, most, text, given):
    hold_numbers(steps, most, text, given)
    nodes = held_nodes(text)
    if not 0 <= node < len(nodes):
        raise NoNode()
    hold_given(nodes[node], steps, given)
    if steps * len(nodes[node].outputs) > most:
        raise TooLong()
    return run_program(made_program(nodes[:node + 1]), steps, given)


def run(node, steps, most, text, given):
    try:
        answer = output_values(node, steps, most, text, given)
    except Refusal as e:
        return [e.answer]
    return [steps] + answer
