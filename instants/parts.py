"""What a text is made of, as the reading of it leaves it."""


# An expression is a list of parts, each behind the parts that it is made of: so it's gone
# through by a loop, however deep it is. `size` is how many it is made of; `worth` is a
# number's value, a name's text or a Call.
class Part:
    def __init__(self, what, place, size, worth):
        self.what = what
        self.place = place
        self.size = size
        self.worth = worth


# `way` is "", "reset" or "activate"; with one of these two the last of the part's parts is
# that of `every`. `firsts` are the values behind `initial`.
class Call:
    def __init__(self, name, way):
        self.name = name
        self.way = way
        self.firsts = []


class First:
    def __init__(self, kind, number):
        self.kind = kind
        self.number = number


class Declared:
    def __init__(self, name, place, kind):
        self.name = name
        self.place = place
        self.kind = kind


# `lefts` are the tokens of the names on the left; `place` is that of the = behind them.
class Equation:
    def __init__(self, lefts, place, code):
        self.lefts = lefts
        self.place = place
        self.code = code


class Node:
    def __init__(self, name, place):
        self.name = name
        self.place = place
        self.inputs = []
        self.outputs = []
        self.inner = []
        self.equations = []


def declared_names(node):
    return node.inputs + node.outputs + node.inner


# How much an instance of the node keeps, but for the instances of its calls.
def own_size(node):
    size = 1
    for equation in node.equations:
        for part in equation.code:
            if part.what in ("pre", "fby"):
                size += 1
            if part.what == "call":
                size += len(part.worth.firsts)
    return size


# The last parts of a stack, in their order; they're off it afterwards.
def taken_off(stack, size):
    parts = []
    for k in range(size):
        parts.append(stack.pop())
    parts.reverse()
    return parts
