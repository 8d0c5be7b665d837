"""Programs: nodes made ready to run. They take instances through one instant after the other."""

# The cell that says whether it's the instance's first instant.
FIRST = 0


# What instances keep from one instant to the next lies in one list, `kept`: of each instance, from its
# `base` on, first its own (whether its next instant is its first, what each pre and fby gives then,
# what each activate holds), then what the instances of its calls keep.
#
# The values of an instant lie in the program's cells: ahead what the instance kept of its own, then
# what it's given, then all else. All instances of a node take turns with these cells: a node calls
# only nodes before it, so none of its instances goes on while another one of them does.
class Program:
    def __init__(self, own, width):
        self.own = own
        self.width = width
        self.cells = [0] * (own + width)
        self.outputs = []
        # How much an instance keeps in all.
        self.room = own
        # What's done at an instant, in order: pairs of a list of acts and the call behind them, or None.
        # An act is a function, the cell that's worked out by it, two that it's given, one of no use, and the
        # function that does it for many runs at once; or it is None, a cell, the two of which one is chosen,
        # the cell that's true where it's the first of these, and None.
        self.stretches = []
        self.sites = []
        # Pairs: one of the instance's own cells, and the cell whose value is kept there at an instant's end.
        self.keeps = []
        # Pairs: a cell that holds an output of an activated instance, and what initial says.
        self.held = []

    # The instance begins anew: so do those of its calls, and what activate holds is as initial says.
    # What pre and fby had stays, as nothing looks at it at a first instant.
    def begin(self, kept, base):
        for site in self.sites:
            kept[base + site.start] = 1
        for cell, number in self.held:
            kept[base + cell] = number

    # Takes an instance through one instant. What it's given lies in the cells, and its outputs do so then.
    def go_on(self, kept, base):
        if kept[base] == 1:
            self.begin(kept, base)
        cells = self.cells
        cells[FIRST] = kept[base]
        if self.own > 1:
            cells[1:self.own] = kept[base + 1:base + self.own]
        for acts, site in self.stretches:
            for work, to, left, right, test, lane_work in acts:
                if work is None:
                    cells[to] = cells[left] if cells[test] == 1 else cells[right]
                else:
                    cells[to] = work(cells[left], cells[right])
            if site is not None:
                site.pass_on(cells, kept, base)
        for cell, source in self.keeps:
            kept[base + cell] = cells[source]
        kept[base] = 0


# A call in a node. What its instances keep begins `start` behind the base of the instance that calls.
class Site:
    def __init__(self, program, way, start):
        self.program = program
        self.way = way
        self.start = start
        self.every = FIRST
        # Pairs of an input's cell and the caller's cell that it's given, and of the caller's
        # cell and the output's that it gets.
        self.given = []
        self.results = []

    def pass_on(self, cells, kept, base):
        place = base + self.start
        if self.way == "activate" and cells[self.every] == 0:
            return
        if self.way == "reset" and cells[self.every] == 1:
            kept[place] = 1
        program = self.program
        inner = program.cells
        for cell, source in self.given:
            inner[cell] = cells[source]
        program.go_on(kept, place)
        for cell, source in self.results:
            cells[cell] = inner[source]
