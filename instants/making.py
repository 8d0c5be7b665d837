"""Making programs of nodes: which cell each value lies in, and what is worked out from what, in which order."""

from instants.circles import working_order
from instants.lanes import lane_work_of
from instants.operators import work_of
from instants.parts import Part, own_size, taken_off
from instants.programs import FIRST, Program, Site


# An expression without what's behind its pres and on the right of its fbys: that is their worth
# then, without what's behind those within it, and so on. All of it runs backwards, as every
# part comes ahead of those that it's made of there, the last first.
def cut_up(code):
    piece = []
    homes = [piece]
    for part in reversed(code):
        home = homes.pop()
        if part.what in ("pre", "fby"):
            behind = []
            home.append(Part(part.what, part.place, part.size - 1, behind))
            homes.extend([home for k in range(part.size - 1)])
            homes.append(behind)
        else:
            home.append(part)
            homes.extend([home for k in range(part.size)])
    return piece


def constant_of(part):
    if part.what == "number":
        return part.worth
    return 1 if part.what == "true" else 0


# Makes one node's program; `programs` are those of the nodes before, by their names.
class Maker:
    def __init__(self, node, programs):
        self.programs = programs
        self.program = Program(own_size(node), len(node.inputs))
        self.acts = []
        self.names = {}
        self.constants = {}
        # For each of the instance's own cells so far the piece whose value is kept there, if it's one.
        self.behind = [None]

    def new_cell(self, number):
        self.program.cells.append(number)
        return len(self.program.cells) - 1

    def constant_cell(self, number):
        if number not in self.constants:
            self.constants[number] = self.new_cell(number)
        return self.constants[number]

    def own_cell(self, piece):
        self.behind.append(piece)
        return len(self.behind) - 1

    def work_out(self, what, left, right):
        to = self.new_cell(0)
        self.acts.append((work_of(what), to, left, right, FIRST, lane_work_of(what)))
        return to

    def choose(self, test, left, right):
        to = self.new_cell(0)
        self.acts.append((None, to, left, right, test, None))
        return to

    def end_stretch(self, site):
        self.program.stretches.append((self.acts, site))
        self.acts = []

    # Both operators before one are as one between two with a 0.
    def make_operator(self, part, given):
        if part.what == "if":
            return self.choose(given[0], given[1], given[2])
        if part.what == "->":
            return self.choose(FIRST, given[0], given[1])
        if part.what == "fby":
            return self.choose(FIRST, given[0], self.own_cell(part.worth))
        if part.what == "negate":
            return self.work_out("-", self.constant_cell(0), given[0])
        if part.what == "not":
            return self.work_out("=", self.constant_cell(0), given[0])
        return self.work_out(part.what, given[0], given[1])

    # What an activated instance had last lies among what's kept; its outputs are told from there.
    def hold_firsts(self, call):
        cells = []
        for first in call.firsts:
            cell = self.own_cell(None)
            self.program.held.append((cell, first.number))
            self.program.keeps.append((cell, cell))
            cells.append(cell)
        return cells

    def make_call(self, call, given):
        called = self.programs[call.name]
        site = Site(called, call.way, self.program.room)
        self.program.room += called.room
        self.program.sites.append(site)
        if call.way != "":
            site.every = given.pop()
        site.given = [(called.own + k, cell) for k, cell in enumerate(given)]
        if call.way == "activate":
            cells = self.hold_firsts(call)
        else:
            cells = [self.new_cell(0) for output in called.outputs]
        site.results = list(zip(cells, called.outputs))
        self.end_stretch(site)
        return cells

    # The cells of a part, by those of what it's made of: one, but for a call alone on the right of =.
    def make_part(self, part, given):
        if part.what == "name":
            return [self.names[part.worth]]
        if part.what in ("number", "true", "false"):
            return [self.constant_cell(constant_of(part))]
        if part.what == "pre":
            return [self.own_cell(part.worth)]
        if part.what == "call":
            return self.make_call(part.worth, given)
        return [self.make_operator(part, given)]

    def make_piece(self, piece):
        stack = []
        for part in reversed(piece):
            given = [cells[0] for cells in taken_off(stack, part.size)]
            stack.append(self.make_part(part, given))
        return stack[0]

    # A name needs no cell of its own: it lies where its equation's right does.
    def make_equation(self, equation):
        cells = self.make_piece(cut_up(equation.code))
        for token, cell in zip(equation.lefts, cells):
            self.names[token.text] = cell

    # What's behind pre and on the right of fby comes when all names have their values. Making one
    # may bring more of them.
    def make_behind(self):
        cell = 0
        while cell < len(self.behind):
            if self.behind[cell] is not None:
                self.program.keeps.append((cell, self.make_piece(self.behind[cell])[0]))
            cell += 1

    def make(self, node):
        for k, name in enumerate(node.inputs):
            self.names[name.name] = self.program.own + k
        for k in working_order(node):
            self.make_equation(node.equations[k])
        self.make_behind()
        self.end_stretch(None)
        self.program.outputs = [self.names[name.name] for name in node.outputs]
        return self.program


# The last node's program, with those of the nodes before it that it calls.
def made_program(nodes):
    programs = {}
    for node in nodes:
        programs[node.name] = Maker(node, programs).make(node)
    return programs[nodes[-1].name]
