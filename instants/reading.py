"""Reading a text: its nodes, their names and their equations."""

from instants.expressions import Builder
from instants.parts import Declared, Equation, Node
from instants.refusals import PastLimit
from instants.tokens import Reader

MOST_NODES = 64
MOST_NAMES = 64


def read_declared(reader, room):
    token = reader.take("name")
    if room <= 0:
        raise PastLimit()
    return token


# Names of one kind; room is for how many the node has room still.
def read_alike(reader, room):
    tokens = [read_declared(reader, room)]
    while reader.sees(","):
        reader.take(",")
        tokens.append(read_declared(reader, room - len(tokens)))
    reader.take(":")
    kind = reader.take_one_of(("int", "bool")).kind
    return [Declared(token.text, token.place, kind) for token in tokens]


def read_names(reader, room):
    reader.take("(")
    names = read_alike(reader, room)
    while reader.sees(";"):
        reader.take(";")
        names.extend(read_alike(reader, room - len(names)))
    reader.take(")")
    return names


def read_inner(reader, room):
    names = []
    if not reader.sees("var"):
        return names
    reader.take("var")
    while len(names) == 0 or not reader.sees("let"):
        names.extend(read_alike(reader, room - len(names)))
        reader.take(";")
    return names


def read_lefts(reader):
    if not reader.sees("("):
        return [reader.take("name")]
    reader.take("(")
    lefts = [reader.take("name")]
    while len(lefts) == 1 or reader.sees(","):
        reader.take(",")
        lefts.append(reader.take("name"))
    reader.take(")")
    return lefts


def read_equations(reader):
    builder = Builder(reader)
    equations = []
    reader.take("let")
    while len(equations) == 0 or not reader.sees("tel"):
        lefts = read_lefts(reader)
        place = reader.take("=").place
        equations.append(Equation(lefts, place, builder.expression()))
        reader.take(";")
    reader.take("tel")
    return equations


def read_node(reader):
    name = reader.take("name")
    node = Node(name.text, name.place)
    node.inputs = read_names(reader, MOST_NAMES)
    reader.take("returns")
    node.outputs = read_names(reader, MOST_NAMES - len(node.inputs))
    reader.take(";")
    node.inner = read_inner(reader, MOST_NAMES - len(node.inputs) - len(node.outputs))
    node.equations = read_equations(reader)
    return node


def read_nodes(text):
    reader = Reader(text)
    nodes = []
    while len(nodes) == 0 or not reader.sees("end"):
        reader.take("node")
        if len(nodes) == MOST_NODES:
            raise PastLimit()
        nodes.append(read_node(reader))
    return nodes
