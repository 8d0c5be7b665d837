"""Values of many runs at once: in each lane they are as the operators make them for one."""

import random
import unittest

from instants.lanes import chosen_value, in_masks, lane_work_of, true_lanes, truth_of, value_of
from instants.operators import work_of

ENDS = (-2147483648, -2147483647, -65536, -3, -2, -1, 0, 1, 2, 3, 46341, 65535, 2147483646, 2147483647)
SIGNS = "+ - * / mod = <> < <= > >=".split()
BOOL_SIGNS = "and or xor => = <>".split()


def spread(numbers):
    """A value with these numbers, one in each lane."""
    full = (1 << len(numbers)) - 1
    masks = [sum((number >> k & 1) << lane for lane, number in enumerate(numbers)) for k in range(32)]
    return value_of(full, masks)


def numbers_of(value, count):
    masks = in_masks((1 << count) - 1, value)
    numbers = []
    for lane in range(count):
        number = -(masks[-1] >> lane & 1)
        for mask in reversed(masks):
            number = number * 2 + (mask >> lane & 1)
        numbers.append(number)
    return numbers


class Lanes(unittest.TestCase):
    def assert_worked(self, sign, lefts, rights):
        full = (1 << len(lefts)) - 1
        masks = lane_work_of(sign)(full, in_masks(full, spread(lefts)), in_masks(full, spread(rights)))
        for mask in masks:
            self.assertEqual(mask & full, mask)
        wanted = [work_of(sign)(left, right) for left, right in zip(lefts, rights)]
        self.assertEqual(numbers_of(masks, len(lefts)), wanted, (sign, lefts, rights))
        self.assertEqual(value_of(full, masks), spread(wanted))

    def test_all_pairs_of_ends(self):
        pairs = [(left, right) for left in ENDS for right in ENDS]
        for sign in SIGNS:
            self.assert_worked(sign, [left for left, _ in pairs], [right for _, right in pairs])

    def test_each_pair_by_itself(self):
        for sign in SIGNS:
            for left in ENDS:
                for right in ENDS:
                    self.assert_worked(sign, [left], [right])

    def test_one_side_that_is_the_same_in_all_lanes(self):
        for sign in SIGNS:
            for number in ENDS:
                self.assert_worked(sign, [number] * len(ENDS), list(ENDS))
                self.assert_worked(sign, list(ENDS), [number] * len(ENDS))

    def test_numbers_by_chance(self):
        chance = random.Random(1)
        for sign in SIGNS:
            for bits in (1, 2, 5, 16, 31):
                for other in (1, 3, 17, 31):
                    lefts = [chance.randint(-2 ** bits, 2 ** bits - 1) for _ in range(40)]
                    rights = [chance.randint(-2 ** other, 2 ** other - 1) for _ in range(40)]
                    self.assert_worked(sign, lefts, rights)

    def test_truth_values(self):
        for sign in BOOL_SIGNS:
            self.assert_worked(sign, [0, 0, 1, 1], [0, 1, 0, 1])
            for left in (0, 1):
                self.assert_worked(sign, [left, left], [0, 1])
                self.assert_worked(sign, [0, 1], [left, left])
                self.assert_worked(sign, [left], [1 - left])

    def test_what_is_the_same_in_all_lanes_is_a_number(self):
        for number in ENDS:
            for count in (1, 2, 9):
                self.assertEqual(spread([number] * count), number)
                self.assertEqual(numbers_of(number, count), [number] * count)

    def test_masks_are_as_few_as_can_be(self):
        self.assertEqual([len(spread([0, number])) for number in (1, -1, 2, -2, 127, 128, -128, -129)],
                         [2, 1, 3, 2, 8, 9, 8, 9])
        self.assertEqual(len(spread([0, 2147483647])), 32)
        self.assertEqual(len(spread([0, -2147483648])), 32)

    def test_truth_and_lanes(self):
        for lanes in range(16):
            self.assertEqual(true_lanes(15, truth_of(15, lanes)), lanes)
        self.assertEqual((truth_of(15, 0), truth_of(15, 15), truth_of(15, 5)), (0, 1, (5, 0)))

    def test_choosing(self):
        lefts, rights = [5, -6, 7, 8], [100, 100, -100, 8]
        for lanes in range(16):
            wanted = [(lefts if lanes >> k & 1 else rights)[k] for k in range(4)]
            self.assertEqual(chosen_value(15, lanes, spread(lefts), spread(rights)), spread(wanted))
            wanted = [3 if lanes >> k & 1 else rights[k] for k in range(4)]
            self.assertEqual(chosen_value(15, lanes, 3, spread(rights)), spread(wanted))
            self.assertEqual(chosen_value(15, lanes, 3, 3), 3)
