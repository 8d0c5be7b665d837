"""Values of many runs at once: each run has a lane, which is a bit of its own in every mask."""

# How many bits a number has.
BITS = 32


# A value that's the same in all lanes is a plain number. Any other is a tuple of masks, for the bits of
# its numbers in two's complement: the first has the lanes in which the number is odd, the last those in
# which it's below 0, and bits beyond the last are as that one. A truth value is a number too, 0 or 1.
# `full` is the mask of all lanes.
def in_masks(full, value):
    if not isinstance(value, int):
        return value
    masks = []
    while value not in (0, -1):
        masks.append(full if value & 1 == 1 else 0)
        value = value >> 1
    masks.append(0 if value == 0 else full)
    return tuple(masks)


def shortened(masks):
    size = len(masks)
    while size > 1 and masks[size - 1] == masks[size - 2]:
        size -= 1
    return tuple(masks[:size])


def value_of(full, masks):
    for mask in masks:
        if mask != 0 and mask != full:
            return shortened(masks)
    number = 0 if masks[-1] == 0 else -1
    for mask in reversed(masks):
        number = number * 2 + (0 if mask == 0 else 1)
    return number


# The lanes in which a truth value is true.
def true_lanes(full, value):
    if isinstance(value, int):
        return full if value == 1 else 0
    return value[0]


def truth_of(full, lanes):
    return value_of(full, (lanes, 0))


def longest(left, right):
    return max(len(left), len(right))


def stretched(masks, size):
    return masks + (masks[-1],) * (size - len(masks))


def chosen(lanes, left, right):
    size = longest(left, right)
    return tuple([b ^ (lanes & (a ^ b)) for a, b in zip(stretched(left, size), stretched(right, size))])


# In these lanes the value on the left, in all others the one on the right.
def chosen_value(full, lanes, left, right):
    if lanes == full:
        return left
    if lanes == 0:
        return right
    return value_of(full, chosen(lanes, in_masks(full, left), in_masks(full, right)))


# In all other lanes 0.
def only_in(lanes, masks):
    return tuple([mask & lanes for mask in masks])


def turned_in(lanes, masks):
    return tuple([mask ^ lanes for mask in masks])


# Of so many bits; in the lanes of the carry it's 1 more.
def summed(left, right, carry, size):
    masks = []
    for a, b in zip(stretched(left, size), stretched(right, size)):
        odd = a ^ b
        masks.append(odd ^ carry)
        carry = (a & b) | (odd & carry)
    return shortened(masks)


# To take a number off is to add all its bits turned, and 1.
def taken(full, left, right, size):
    return summed(left, turned_in(full, right), full, size)


def negated_in(lanes, masks):
    return summed(turned_in(lanes, masks), (0,), lanes, len(masks) + 1)


# Of one bit more than they have, so that no sign gets lost.
def below(full, left, right):
    return taken(full, left, right, longest(left, right) + 1)[-1]


def apart(left, right):
    size = longest(left, right)
    lanes = 0
    for a, b in zip(stretched(left, size), stretched(right, size)):
        lanes = lanes | (a ^ b)
    return lanes


def sum_size(left, right):
    return min(longest(left, right) + 1, BITS)


def added_lanes(full, left, right):
    return summed(left, right, 0, sum_size(left, right))


def subtracted_lanes(full, left, right):
    return taken(full, left, right, sum_size(left, right))


# Bit by bit, from the one of the sign, which is worth less than 0.
def multiplied_lanes(full, left, right):
    if len(left) < len(right):
        return multiplied_lanes(full, right, left)
    total = subtracted_lanes(full, (0,), only_in(right[-1], left))
    for mask in reversed(right[:-1]):
        twice = ((0,) + total)[:BITS]
        total = added_lanes(full, twice, only_in(mask, left))
    return total


# How often one goes into the other, and the rest, both without signs: bit by bit from the highest,
# it's taken off where it fits. What comes by 0 is left to the callers.
def parted(full, left, right):
    over = negated_in(left[-1], left)
    under = negated_in(right[-1], right)
    times = [0]
    rest = (0,)
    for mask in reversed(over[:-1]):
        rest = (mask,) + rest
        less = taken(full, rest, under, longest(rest, under) + 1)
        fits = full ^ less[-1]
        rest = shortened(chosen(fits, less, rest))
        times.append(fits)
    times.reverse()
    return tuple(times), rest


def divided_lanes(full, left, right):
    times = parted(full, left, right)[0]
    quotient = negated_in(left[-1] ^ right[-1], times)[:BITS]
    return only_in(apart(right, (0,)), quotient)


def left_over_lanes(full, left, right):
    rest = parted(full, left, right)[1]
    return only_in(apart(right, (0,)), negated_in(left[-1], rest))


def equal_lanes(full, left, right):
    return full ^ apart(left, right), 0


def different_lanes(full, left, right):
    return apart(left, right), 0


def less_lanes(full, left, right):
    return below(full, left, right), 0


def at_most_lanes(full, left, right):
    return full ^ below(full, right, left), 0


def more_lanes(full, left, right):
    return below(full, right, left), 0


def at_least_lanes(full, left, right):
    return full ^ below(full, left, right), 0


def both_lanes(full, left, right):
    return left[0] & right[0], 0


def either_lanes(full, left, right):
    return left[0] | right[0], 0


def implied_lanes(full, left, right):
    return (full ^ left[0]) | right[0], 0


LANE_WORKS = {
    "+": added_lanes, "-": subtracted_lanes, "*": multiplied_lanes, "/": divided_lanes, "mod": left_over_lanes,
    "=": equal_lanes, "<>": different_lanes, "<": less_lanes, "<=": at_most_lanes, ">": more_lanes,
    ">=": at_least_lanes, "and": both_lanes, "or": either_lanes, "xor": different_lanes, "=>": implied_lanes,
}


def lane_work_of(what):
    return LANE_WORKS[what]
