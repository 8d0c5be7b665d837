"""The rules that a text is held to, and where it breaks one."""

from instants.beginnings import wrong_beginnings
from instants.circles import wrong_circles
from instants.kinds import wrong_kinds
from instants.parts import declared_names, own_size
from instants.refusals import BrokenRule, PastLimit

MOST_KEPT = 1000000


def wrong_declared(node):
    seen = {}
    wrong = []
    for name in declared_names(node):
        if name.name in seen:
            wrong.append(name.place)
        seen[name.name] = True
    return wrong


def wrong_names(node, known):
    declared = {}
    for name in declared_names(node):
        declared[name.name] = True
    wrong = []
    for equation in node.equations:
        for part in equation.code:
            if part.what == "name" and part.worth not in declared:
                wrong.append(part.place)
            if part.what == "call" and part.worth.name not in known:
                wrong.append(part.place)
    return wrong


# The third rule and the fourth: just one equation for each output and each name after var.
def wrong_lefts(node):
    own = {}
    for name in node.outputs + node.inner:
        own[name.name] = True
    seen = {}
    wrong = []
    for equation in node.equations:
        for token in equation.lefts:
            if token.text not in own or token.text in seen:
                wrong.append(token.place)
            seen[token.text] = True
    for name in node.outputs + node.inner:
        if name.name not in seen:
            wrong.append(name.place)
    return wrong


def wrong_in_node(node, known):
    wrong = [node.place] if node.name in known else []
    wrong.extend(wrong_declared(node))
    wrong.extend(wrong_names(node, known))
    wrong.extend(wrong_lefts(node))
    wrong.extend(wrong_kinds(node, known))
    wrong.extend(wrong_beginnings(node))
    wrong.extend(wrong_circles(node))
    return wrong


def hold_to_rules(nodes):
    known = {}
    for node in nodes:
        wrong = wrong_in_node(node, known)
        if len(wrong) > 0:
            # All of a node stands ahead of the next one.
            raise BrokenRule(min(wrong))
        known[node.name] = node


# How much an instance of the node keeps, by how much those of the nodes before do.
def kept_by(node, kept):
    total = own_size(node)
    for equation in node.equations:
        for part in equation.code:
            if part.what == "call":
                total += kept[part.worth.name]
    return total


def hold_to_kept(nodes):
    kept = {}
    for node in nodes:
        kept[node.name] = kept_by(node, kept)
        if kept[node.name] > MOST_KEPT:
            raise PastLimit()
