"""The search for what breaks a program: the soonest inputs that make its first output false."""

from instants.bundles import first_bundle
from instants.merging import merged
from instants.refusals import WrongGiven

# How many lanes a bundle has at the most, and how much its runs keep in all: more would cost much room,
# and hardly be faster.
MOST_LANES = 2048
MOST_KEPT = 134217728

# How many inputs a node may have that's searched, and how many in all its instants.
MOST_INPUTS = 8
MOST_GIVEN = 20


def lanes_let(room):
    lanes = MOST_LANES
    while lanes > 1 and lanes * room > MOST_KEPT:
        lanes = lanes // 2
    return lanes


def hold_searched(node, most):
    if any([name.kind == "int" for name in node.inputs]) or node.outputs[0].kind == "int":
        raise WrongGiven()
    if len(node.inputs) > MOST_INPUTS or len(node.inputs) * most > MOST_GIVEN:
        raise WrongGiven()


# All inputs are tried, those of many runs at once, in bundles. Of what breaks a bundle's runs the soonest is
# taken, and the first in order of that; so it doesn't matter which bundle comes first.
class Search:
    def __init__(self, program, most):
        self.width = program.width
        self.let = lanes_let(program.room)
        # So many instants are looked at; that's fewer once something's found.
        self.most = most
        # What's given in the best run that's found, from the first instant's first input on.
        self.best = []
        self.waiting = [first_bundle(program)]
        self.merging = True

    def take(self, bundle, lanes):
        path = bundle.path(bundle.first_lane(lanes))
        if bundle.steps < self.most or self.best == [] or path < self.best:
            self.best = path
        self.most = bundle.steps

    # Half of a bundle that would get too many lanes by it waits.
    def tell_inputs(self, bundle):
        goal = (bundle.steps + 1) * self.width
        while len(bundle.told) < goal:
            lanes = bundle.full.bit_length()
            if lanes > 1 and lanes * 2 > self.let:
                self.waiting.append(bundle.half_off())
            bundle.tell_input()

    def follow(self, bundle):
        while bundle.steps < self.most:
            self.tell_inputs(bundle)
            lanes = bundle.next_instant()
            if lanes != 0:
                self.take(bundle, lanes)
                return
            self.make_room(bundle)

    # Merging that isn't worth it isn't tried again.
    def make_room(self, bundle):
        crowded = bundle.full.bit_length() << self.width > self.let
        if crowded and self.merging and bundle.steps < self.most:
            self.merging = merged(bundle, self.let // 2)

    def go_through(self):
        while self.waiting:
            self.follow(self.waiting.pop())
        return self.best


def bytes_of_path(path, width):
    answer = []
    for start in range(0, len(path), width):
        number = 0
        for bit in reversed(path[start:start + width]):
            number = number * 2 + bit
        answer.append(number)
    return answer


# For each instant of the soonest inputs that break it a byte; none if nothing breaks it.
def soonest_break(program, most):
    return bytes_of_path(Search(program, most).go_through(), program.width)
