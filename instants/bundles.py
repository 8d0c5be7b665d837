"""Bundles: many runs of one program that go on together, each in a lane of its own."""

from instants.lanes import chosen_value, in_masks, true_lanes, truth_of, value_of


def changed_value(full, value, change):
    if isinstance(value, int):
        return value
    return value_of(full, tuple([change(mask) for mask in value]))


# `kept` is as in a run by itself. `told` has the masks of what the runs are given: of each instant,
# of each input in order, the lanes in which it's true. By these no two lanes are alike.
class Bundle:
    def __init__(self, program, full, steps, told, kept):
        self.program = program
        self.full = full
        self.steps = steps
        self.told = told
        self.kept = kept

    # The three that follow do as those of Program and Site do, but only in the lanes that are live:
    # in all others the instance stays as it is, and what's in the cells is of no use.
    def begin(self, program, base, live):
        kept = self.kept
        for site in program.sites:
            place = base + site.start
            kept[place] = chosen_value(self.full, live, 1, kept[place])
        for cell, number in program.held:
            kept[base + cell] = chosen_value(self.full, live, number, kept[base + cell])

    def go_on(self, program, base, live):
        full = self.full
        kept = self.kept
        if kept[base] != 0:
            self.begin(program, base, true_lanes(full, kept[base]) & live)
        cells = program.cells
        cells[0:program.own] = kept[base:base + program.own]
        for acts, site in program.stretches:
            for work, to, left, right, test, lane_work in acts:
                a = cells[left]
                b = cells[right]
                if work is None:
                    cells[to] = chosen_value(full, true_lanes(full, cells[test]), a, b)
                elif isinstance(a, int) and isinstance(b, int):
                    cells[to] = work(a, b)
                else:
                    cells[to] = value_of(full, lane_work(full, in_masks(full, a), in_masks(full, b)))
            if site is not None:
                self.pass_on(site, cells, base, live)
        for cell, source in program.keeps:
            kept[base + cell] = chosen_value(full, live, cells[source], kept[base + cell])
        kept[base] = chosen_value(full, live, 0, kept[base])

    def pass_on(self, site, cells, base, live):
        full = self.full
        place = base + site.start
        if site.way == "activate":
            live = live & true_lanes(full, cells[site.every])
            if live == 0:
                return
        if site.way == "reset":
            anew = live & true_lanes(full, cells[site.every])
            self.kept[place] = chosen_value(full, anew, 1, self.kept[place])
        inner = site.program.cells
        for cell, source in site.given:
            inner[cell] = cells[source]
        self.go_on(site.program, place, live)
        for cell, source in site.results:
            if site.way == "activate":
                cells[cell] = chosen_value(full, live, inner[source], cells[cell])
            else:
                cells[cell] = inner[source]

    # Takes all runs through an instant for which all inputs are told. The lanes in which the first
    # output is false come back.
    def next_instant(self):
        program = self.program
        start = self.steps * program.width
        for k in range(program.width):
            program.cells[program.own + k] = truth_of(self.full, self.told[start + k])
        self.go_on(program, 0, self.full)
        self.steps += 1
        return self.full ^ true_lanes(self.full, program.cells[program.outputs[0]])

    def change_lanes(self, full, change):
        self.full = full
        self.told = [change(mask) for mask in self.told]
        self.kept = [changed_value(full, value, change) for value in self.kept]

    # Each run becomes two: one in which the next input is false, and one in which it's true.
    def tell_input(self):
        size = self.full.bit_length()
        lanes = self.full << size
        self.change_lanes(self.full | lanes, lambda mask: mask | mask << size)
        self.told.append(lanes)

    # Half of the lanes go into a bundle of their own.
    def half_off(self):
        half = self.full.bit_length() // 2
        other = Bundle(self.program, self.full, self.steps, self.told, self.kept)
        other.change_lanes(self.full >> half, lambda mask: mask >> half)
        low = self.full ^ (other.full << half)
        self.change_lanes(low, lambda mask: mask & low)
        return other

    # Of these lanes the one whose inputs come first in order.
    def first_lane(self, lanes):
        for mask in self.told:
            inside = lanes & mask
            if inside != lanes:
                lanes = lanes ^ inside
        return lanes

    # What's given in one lane, from the first instant's first input on.
    def path(self, lane):
        return [1 if mask & lane != 0 else 0 for mask in self.told]


def first_bundle(program):
    return Bundle(program, 1, 0, [], [1] + [0] * (program.room - 1))
