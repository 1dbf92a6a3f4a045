"""Points 7 to 10, and of points 1 to 5 what they ask of slips.

Long numbers are compared by assertTrue(a == b): Python can't write them out in a message.
"""

import copy
import inspect
import itertools
import unittest
from unittest import mock

from reckoned import (
    DEPTHS, LONGEST, WRONG_DEPTHS, RefusalCase, all_rows, first_refusal, rows_from, slip_by_hand, some_rows,
    top_by_hand, wrong_keys,
)
from topslip import pairing
from topslip.errors import BadDepth, BadKey, BadNumber, NotTaken, SlipError
from topslip.slips import is_taken, moved_top, slip_for
from topslip.tops import top_of

# Worked out by hand. Depth 2: the places 5, 0, 0, 2; the pairs 15 and 5.
TWO = [(3, 1), (0, 4)]
TWO_TOP = 215
TWO_SLIPS = [[0, 5], [5, 5], [2, 15], [0, 15]]
# Depth 3: the places 1, 0, 1, 0, 0, 1, 0, 1; the pairs 1, 1, 2, 2; of these 4 and 12.
THREE = [(0, 0), (2, 0), (5, 0), (7, 0)]
THREE_TOP = 148
THREE_SLIPS = [
    [0, 1, 12], [1, 1, 12], [0, 1, 12], [1, 1, 12], [1, 2, 4], [0, 2, 4], [1, 2, 4], [0, 2, 4],
]


def value_at(rows, key):
    return dict(rows).get(key)


class Interface(unittest.TestCase):
    def test_arguments(self):
        self.assertEqual(list(inspect.signature(slip_for).parameters), ["depth", "rows", "key"])
        self.assertEqual(list(inspect.signature(is_taken).parameters), ["depth", "top", "key", "value", "slip"])
        self.assertEqual(
            list(inspect.signature(moved_top).parameters), ["depth", "top", "key", "slip", "old", "new"]
        )
        self.assertEqual(slip_for(depth=2, rows=TWO, key=1), [5, 5])
        self.assertIs(is_taken(depth=2, top=TWO_TOP, key=1, value=None, slip=[5, 5]), True)
        self.assertEqual(moved_top(depth=2, top=TWO_TOP, key=1, slip=[5, 5], old=None, new=0), 383)

    def test_kinds(self):
        slip = slip_for(2, TWO, 1)
        self.assertIs(type(slip), list)
        self.assertEqual([type(number) for number in slip], [int, int])
        self.assertIs(type(slip_for(0, [], 0)), list)
        self.assertIs(type(moved_top(2, TWO_TOP, 1, [5, 5], None, 0)), int)

    def test_true_or_false_and_nothing_else(self):
        for slip in ([], [5], [5, 5], [5, 5, 5], [0, 0], [5, LONGEST], [LONGEST, 5]):
            self.assertIs(type(is_taken(2, TWO_TOP, 1, None, slip)), bool)
        self.assertIs(is_taken(0, 0, 0, None, []), True)
        self.assertIs(is_taken(0, 0, 0, 0, []), False)


class SlipsOfKeys(unittest.TestCase):
    def test_depth_0_by_hand(self):
        self.assertEqual(slip_for(0, [], 0), [])
        self.assertEqual(slip_for(0, [(0, 41)], 0), [])

    def test_depth_1_by_hand(self):
        self.assertEqual(slip_for(1, [], 0), [0])
        self.assertEqual(slip_for(1, [(0, 3), (1, 1)], 0), [2])
        self.assertEqual(slip_for(1, [(0, 3), (1, 1)], 1), [4])
        self.assertEqual(slip_for(1, [(0, 0)], 0), [0])
        self.assertEqual(slip_for(1, [(0, 0)], 1), [1])

    def test_depth_2_by_hand(self):
        for key, slip in enumerate(TWO_SLIPS):
            self.assertEqual(slip_for(2, TWO, key), slip)

    def test_depth_3_by_hand(self):
        for key, slip in enumerate(THREE_SLIPS):
            self.assertEqual(slip_for(3, THREE, key), slip)

    def test_depth_8_by_hand(self):
        # The row at the leftmost place leads to 1 at each level, since the pair (1, 0) is 1.
        for key in range(256):
            slip = [0] * 8
            if key > 0:
                slip[key.bit_length() - 1] = 1
            self.assertEqual(slip_for(8, [(0, 0)], key), slip)

    def test_depth_8_from_the_right_by_hand(self):
        # The row at the rightmost place: the pair (0, n) is n * (n + 3) / 2.
        numbers = [1]
        while len(numbers) < 8:
            numbers.append(numbers[-1] * (numbers[-1] + 3) // 2)
        self.assertEqual(numbers[:7], [1, 2, 5, 20, 230, 26_795, 359_026_205])
        for level, key in enumerate([254, 253, 251, 247, 239, 223, 191, 127]):
            slip = [0] * 8
            slip[level] = numbers[level]
            self.assertEqual(slip_for(8, [(255, 0)], key), slip)

    def test_as_many_numbers_as_the_depth(self):
        for depth in DEPTHS:
            for rows in some_rows(depth):
                self.assertEqual(len(slip_for(depth, rows, 0)), depth)

    def test_by_another_way(self):
        for depth in DEPTHS:
            for rows in some_rows(depth):
                for key in {0, 1, 2**depth // 2, 2**depth // 3, 2**depth - 2, 2**depth - 1}:
                    if 0 <= key < 2**depth:
                        self.assertTrue(slip_for(depth, rows, key) == slip_by_hand(depth, rows, key))

    def test_any_order_of_rows(self):
        for order in itertools.permutations(THREE):
            self.assertEqual(slip_for(3, list(order), 3), THREE_SLIPS[3])

    def test_the_key_s_own_value_is_not_in_it(self):
        for value in (0, 1, 10**99):
            self.assertEqual(slip_for(2, [(3, 1), (0, value)], 0), [0, 5])
        self.assertEqual(slip_for(2, [(3, 1)], 0), [0, 5])


class Taken(unittest.TestCase):
    def test_depth_0_by_hand(self):
        self.assertIs(is_taken(0, 42, 0, 41, []), True)
        self.assertIs(is_taken(0, 0, 0, None, []), True)
        self.assertIs(is_taken(0, 1, 0, 0, []), True)
        self.assertIs(is_taken(0, 42, 0, 42, []), False)
        self.assertIs(is_taken(0, 42, 0, None, []), False)
        self.assertIs(is_taken(0, 1, 0, None, []), False)
        self.assertIs(is_taken(0, 0, 0, 0, []), False)
        self.assertIs(is_taken(0, 42, 0, 41, [0]), False)

    def test_depth_1_by_hand(self):
        self.assertIs(is_taken(1, 23, 0, 3, [2]), True)
        self.assertIs(is_taken(1, 23, 1, 1, [4]), True)
        self.assertIs(is_taken(1, 23, 0, 1, [4]), False)
        self.assertIs(is_taken(1, 23, 1, 3, [2]), False)
        self.assertIs(is_taken(1, 1, 1, None, [1]), True)
        self.assertIs(is_taken(1, 2, 0, None, [1]), True)
        self.assertIs(is_taken(1, 1, 0, None, [1]), False)

    def test_depths_2_and_3_by_hand(self):
        for depth, top, rows, slips in ((2, TWO_TOP, TWO, TWO_SLIPS), (3, THREE_TOP, THREE, THREE_SLIPS)):
            for key, slip in enumerate(slips):
                for value in (None, 0, 1, 2, 3, 4, 5, 10**99):
                    with self.subTest(depth=depth, key=key, value=value):
                        self.assertIs(is_taken(depth, top, key, value, slip), value == value_at(rows, key))

    def test_depth_8_by_hand(self):
        self.assertIs(is_taken(8, 1, 0, 0, [0] * 8), True)
        self.assertIs(is_taken(8, 1, 0, None, [0] * 8), False)
        self.assertIs(is_taken(8, 0, 0, None, [0] * 8), True)
        self.assertIs(is_taken(8, 1, 1, None, [1] + [0] * 7), True)
        self.assertIs(is_taken(8, 1, 255, None, [0] * 7 + [1]), True)
        self.assertIs(is_taken(8, 1, 64, None, [0] * 6 + [1, 0]), True)
        self.assertIs(is_taken(8, 1, 64, None, [0] * 7 + [1]), False)
        self.assertIs(is_taken(8, 1, 128, None, [0] * 6 + [1, 0]), False)

    def test_each_key_s_own_slip(self):
        for depth in DEPTHS:
            for rows in some_rows(depth):
                top = top_by_hand(depth, rows)
                for key in {0, 2**depth // 2, 2**depth // 3, 2**depth - 1}:
                    slip = slip_for(depth, rows, key)
                    value = value_at(rows, key)
                    self.assertIs(is_taken(depth, top, key, value, slip), True)
                    for other in (None, 0, 1, 7):
                        self.assertIs(is_taken(depth, top, key, other, slip), other == value)
                    self.assertIs(is_taken(depth, top + 1, key, value, slip), False)
                    self.assertIs(is_taken(depth, top - 1, key, value, slip), False)

    def test_one_number_too_few_or_too_many(self):
        for depth in DEPTHS:
            for rows in some_rows(depth):
                top = top_by_hand(depth, rows)
                slip = slip_for(depth, rows, 0)
                value = value_at(rows, 0)
                others = [slip + [0], [0] + slip, slip + [1], slip + slip + [0], [0] * 1000]
                if depth > 0:
                    others += [slip[:-1], slip[1:], []]
                for other in others:
                    self.assertIs(is_taken(depth, top, 0, value, other), False)

    def test_too_short_or_too_long_but_leading_to_the_top(self):
        # The pair (1, 0) is 1: at key 0 with the value 0 noughts lead to 1, however many there are.
        for depth in DEPTHS:
            for count in range(12):
                self.assertIs(is_taken(depth, 1, 0, 0, [0] * count), count == depth)
                self.assertIs(is_taken(depth, 0, 0, None, [0] * count), count == depth)

    def test_one_number_changed(self):
        for depth in DEPTHS:
            for rows in some_rows(depth):
                top = top_by_hand(depth, rows)
                for key in {0, 2**depth // 3, 2**depth - 1}:
                    slip = slip_for(depth, rows, key)
                    value = value_at(rows, key)
                    for at in range(depth):
                        for number in (slip[at] + 1, slip[at] - 1, slip[at] + 10**99, 0, LONGEST):
                            other = slip[:at] + [number] + slip[at + 1:]
                            if number >= 0:
                                self.assertIs(is_taken(depth, top, key, value, other), number == slip[at])

    def test_numbers_in_another_order(self):
        for order in itertools.permutations([1, 2, 4]):
            self.assertIs(is_taken(3, THREE_TOP, 4, None, list(order)), list(order) == [1, 2, 4])

    def test_another_key(self):
        for key, other in itertools.product(range(4), repeat=2):
            taken = is_taken(2, TWO_TOP, other, value_at(TWO, key), TWO_SLIPS[key])
            self.assertIs(taken, key == other)

    def test_just_the_key_s_value_and_slip(self):
        sets = all_rows(2, [0, 1])
        slips = sorted({tuple(slip_by_hand(2, rows, key)) for rows in sets for key in range(4)})
        for rows in sets:
            top = top_by_hand(2, rows)
            for key in range(4):
                found = [
                    (value, slip) for value in (None, 0, 1, 2) for slip in slips
                    if is_taken(2, top, key, value, list(slip))
                ]
                self.assertEqual(found, [(value_at(rows, key), tuple(slip_by_hand(2, rows, key)))])

    def test_each_small_top_takes_just_one(self):
        values = [None] + list(range(9))
        for top in range(40):
            for key in (0, 1):
                taken = [
                    (value, other) for value in values for other in range(12) if is_taken(1, top, key, value, [other])
                ]
                self.assertEqual(len(taken), 1)
                value, other = taken[0]
                own = rows_from([value, other - 1 if other else None])
                self.assertEqual(top_of(1, own if key == 0 else [(1 - place, held) for place, held in own]), top)

    def test_a_top_below_nought_takes_nothing(self):
        for depth in DEPTHS:
            for top in (-1, -2, -(10**99), -LONGEST):
                for value in (None, 0, 5):
                    self.assertIs(is_taken(depth, top, 0, value, [0] * depth), False)
                    self.assertIs(is_taken(depth, top, 2**depth - 1, value, [3] * depth), False)


class Moved(unittest.TestCase):
    def test_depth_0_by_hand(self):
        self.assertEqual(moved_top(0, 42, 0, [], 41, 7), 8)
        self.assertEqual(moved_top(0, 42, 0, [], 41, None), 0)
        self.assertEqual(moved_top(0, 0, 0, [], None, 0), 1)
        self.assertEqual(moved_top(0, 0, 0, [], None, None), 0)

    def test_depth_1_by_hand(self):
        # The pairs (1, 2), (0, 2), (4, 0) and (4, 1).
        self.assertEqual(moved_top(1, 23, 0, [2], 3, 0), 8)
        self.assertEqual(moved_top(1, 23, 0, [2], 3, None), 5)
        self.assertEqual(moved_top(1, 23, 1, [4], 1, None), 10)
        self.assertEqual(moved_top(1, 23, 1, [4], 1, 0), 16)

    def test_depth_2_by_hand(self):
        # The pairs (5, 1) and (22, 5); (0, 0) and (0, 5); (0, 1) and (15, 2); (1, 2) and (15, 8).
        self.assertEqual(moved_top(2, TWO_TOP, 1, [5, 5], None, 0), 383)
        self.assertEqual(moved_top(2, TWO_TOP, 0, [0, 5], 4, None), 20)
        self.assertEqual(moved_top(2, TWO_TOP, 3, [0, 15], 1, 0), 155)
        self.assertEqual(moved_top(2, TWO_TOP, 2, [2, 15], None, 0), 284)
        self.assertEqual(moved_top(2, TWO_TOP, 2, [2, 15], None, None), TWO_TOP)
        self.assertEqual(moved_top(2, TWO_TOP, 0, [0, 5], 4, 4), TWO_TOP)

    def test_depth_3_by_hand(self):
        # The pairs (0, 0), (0, 2) and (4, 5).
        self.assertEqual(moved_top(3, THREE_TOP, 5, [0, 2, 4], 0, None), 50)

    def test_depth_8_by_hand(self):
        self.assertEqual(moved_top(8, 0, 0, [0] * 8, None, 0), 1)
        self.assertEqual(moved_top(8, 1, 0, [0] * 8, 0, None), 0)
        # The pair (1, 1) is 4, and from there the pair (n, 0) is n * (n + 1) / 2.
        top = 4
        for level in range(7):
            top = top * (top + 1) // 2
        self.assertEqual(moved_top(8, 1, 1, [1] + [0] * 7, None, 0), top)

    def test_the_top_of_the_changed_rows(self):
        for depth in DEPTHS:
            for rows in some_rows(depth):
                top = top_by_hand(depth, rows)
                for key in {0, 2**depth // 3, 2**depth - 1}:
                    slip = slip_for(depth, rows, key)
                    for new in (None, 0, 1, 10**99):
                        kept = [row for row in rows if row[0] != key]
                        changed = kept if new is None else kept + [(key, new)]
                        moved = moved_top(depth, top, key, slip, value_at(rows, key), new)
                        self.assertTrue(moved == top_by_hand(depth, changed))

    def test_all_changes_of_small_trees(self):
        for rows in all_rows(2, [0, 1]):
            top = top_by_hand(2, rows)
            for key in range(4):
                slip = slip_for(2, rows, key)
                for old, new in itertools.product([None, 0, 1, 2], repeat=2):
                    if old == value_at(rows, key):
                        changed = [row for row in rows if row[0] != key] + rows_from([None] * key + [new])
                        self.assertEqual(moved_top(2, top, key, slip, old, new), top_by_hand(2, changed))
                    else:
                        with self.assertRaises(NotTaken):
                            moved_top(2, top, key, slip, old, new)

    def test_a_slip_that_is_not_taken(self):
        wrong = [
            (TWO_TOP, 1, [5, 5], 0), (TWO_TOP, 1, [5, 4], None), (TWO_TOP, 1, [4, 5], None), (TWO_TOP, 1, [5], None),
            (TWO_TOP, 1, [], None), (TWO_TOP, 1, [5, 5, 0], None), (TWO_TOP, 0, [5, 5], None),
            (TWO_TOP + 1, 1, [5, 5], None), (TWO_TOP - 1, 1, [5, 5], None), (-TWO_TOP, 1, [5, 5], None),
            (-1, 0, [0, 0], None), (TWO_TOP, 0, [0, 5], None), (TWO_TOP, 0, [0, 5], 3), (TWO_TOP, 1, [5] * 1000, None),
        ]
        for top, key, slip, old in wrong:
            for new in (None, 0, 4, old):
                with self.subTest(top=top, key=key, slip=slip, old=old, new=new):
                    with self.assertRaises(NotTaken):
                        moved_top(2, top, key, slip, old, new)

    def test_at_depth_0(self):
        for top, slip, old in ((42, [], 40), (42, [], None), (0, [], 0), (42, [0], 41), (-1, [], None)):
            with self.assertRaises(NotTaken):
                moved_top(0, top, 0, slip, old, 5)

    def test_a_slip_too_short_or_too_long_but_leading_to_the_top(self):
        for depth in DEPTHS:
            for count in range(12):
                if count != depth:
                    with self.assertRaises(NotTaken):
                        moved_top(depth, 1, 0, [0] * count, 0, 1)


class Refusals(RefusalCase):
    def test_depth(self):
        for depth in WRONG_DEPTHS:
            with self.subTest(depth=depth):
                self.check(BadDepth, slip_for, depth, [], 0)
                self.check(BadDepth, is_taken, depth, 0, 0, None, [])
                self.check(BadDepth, moved_top, depth, 0, 0, [], None, None)

    def test_keys(self):
        for depth in DEPTHS:
            for key in wrong_keys(depth):
                with self.subTest(depth=depth, key=key):
                    self.check(BadKey, slip_for, depth, [], key)
                    self.check(BadKey, slip_for, depth, [(0, 0)], key)
                    self.check(BadKey, is_taken, depth, 0, key, None, [0] * depth)
                    self.check(BadKey, moved_top, depth, 0, key, [0] * depth, None, None)

    def test_rows(self):
        for depth in DEPTHS:
            for key in wrong_keys(depth):
                self.check(BadKey, slip_for, depth, [(0, 0), (key, 0)], 0)
            self.check(BadKey, slip_for, depth, [(0, 0), (0, 0)], 0)
            self.check(BadNumber, slip_for, depth, [(0, -1)], 0)
            self.check(BadKey, slip_for, depth, [(0, -1), (0, 0)], 0)
            self.check(BadKey, slip_for, depth, [(0, -1), (2**depth, 0)], 0)

    def test_values(self):
        for depth in DEPTHS:
            for value in (-1, -2, -(10**99)):
                self.check(BadNumber, is_taken, depth, 0, 0, value, [0] * depth)
                self.check(BadNumber, moved_top, depth, 0, 0, [0] * depth, value, None)
                self.check(BadNumber, moved_top, depth, 0, 0, [0] * depth, None, value)

    def test_a_value_that_would_lead_to_the_top(self):
        # By the value -1 the place would have the number nought, as with no value.
        self.check(BadNumber, is_taken, 0, 0, 0, -1, [])
        self.check(BadNumber, is_taken, 0, -1, 0, -2, [])

    def test_numbers_of_slips(self):
        for depth in DEPTHS:
            for at in range(depth):
                for number in (-1, -2, -LONGEST):
                    slip = [0] * at + [number] + [0] * (depth - at - 1)
                    self.check(BadNumber, is_taken, depth, 0, 0, None, slip)
                    self.check(BadNumber, is_taken, depth, 0, 0, 5, slip)
                    self.check(BadNumber, moved_top, depth, 0, 0, slip, None, None)

    def test_numbers_of_slips_of_another_length(self):
        for depth in DEPTHS:
            for slip in ([0] * depth + [-1], [-1] + [0] * depth, [-1] * 1000, [0] * 999 + [-1]):
                self.check(BadNumber, is_taken, depth, 0, 0, None, slip)
                self.check(BadNumber, moved_top, depth, 0, 0, slip, None, None)
        self.check(BadNumber, is_taken, 3, 0, 0, None, [0, -1])

    def test_numbers_behind_one_that_is_too_great_already(self):
        self.check(BadNumber, is_taken, 2, 5, 0, None, [100, -1])
        self.check(BadNumber, is_taken, 2, 5, 0, 100, [0, -1])
        self.check(BadNumber, moved_top, 2, 5, 0, [100, -1], None, None)
        self.check(BadNumber, is_taken, 2, -5, 0, None, [0, -1])

    def test_order_of_slip_for(self):
        wrong_rows = [(TWO, None), ([(4, 0)], BadKey), ([(0, -1)], BadNumber), ([(0, -1), (0, 0)], BadKey)]
        for depth, (rows, of_rows), key in itertools.product((2, 9), wrong_rows, (1, 4, -1)):
            with self.subTest(depth=depth, rows=rows, key=key):
                refusal = first_refusal([(depth == 9, BadDepth), (of_rows, of_rows), (key != 1, BadKey)])
                self.check(refusal, slip_for, depth, rows, key)

    def test_order_of_is_taken(self):
        faults = itertools.product(
            (2, -1), (TWO_TOP, 0, -1), (1, 4, -1), (None, 3, -1), ([5, 5], [5], [5, -1], [5, 5, -1])
        )
        for depth, top, key, value, slip in faults:
            with self.subTest(depth=depth, top=top, key=key, value=value, slip=slip):
                refusal = first_refusal([
                    (depth == -1, BadDepth), (key != 1, BadKey), (value == -1, BadNumber), (-1 in slip, BadNumber),
                ])
                self.check(refusal, is_taken, depth, top, key, value, slip)

    def test_order_of_moved_top(self):
        faults = itertools.product(
            (2, 9), (TWO_TOP, 0, -1), (1, 4, -1), ([5, 5], [5], [5, -1], [5, 5, -1]), (None, 3, -1), (None, 3, -1)
        )
        for depth, top, key, slip, old, new in faults:
            with self.subTest(depth=depth, top=top, key=key, slip=slip, old=old, new=new):
                refusal = first_refusal([
                    (depth == 9, BadDepth), (key != 1, BadKey), (old == -1, BadNumber), (-1 in slip, BadNumber),
                    (new == -1, BadNumber), ((top, slip, old) != (TWO_TOP, [5, 5], None), NotTaken),
                ])
                self.check(refusal, moved_top, depth, top, key, slip, old, new)


class SizesAndNothingChanged(unittest.TestCase):
    def test_tops_of_a_hundred_thousand_figures(self):
        for depth in range(1, 9):
            parts = [LONGEST]
            slip = []
            while len(slip) < depth:
                parts = list(pairing.parts_of(parts[0]))
                slip.insert(0, parts[1])
            value = parts[0] - 1 if parts[0] else None
            self.assertIs(is_taken(depth, LONGEST, 0, value, slip), True)
            self.assertIs(is_taken(depth, LONGEST - 1, 0, value, slip), False)
            moved = moved_top(depth, LONGEST, 0, slip, value, 10**99)
            self.assertIs(is_taken(depth, moved, 0, 10**99, slip), True)
            self.assertTrue(moved_top(depth, moved, 0, slip, 10**99, value) == LONGEST)
        self.assertIs(is_taken(0, LONGEST, 0, LONGEST - 1, []), True)

    def test_values_of_a_hundred_figures(self):
        rows = [(key, 10**100 - 1 - key) for key in range(256)]
        top = top_of(8, rows)
        slip = slip_for(8, rows, 77)
        self.assertTrue(slip == slip_by_hand(8, rows, 77))
        self.assertIs(is_taken(8, top, 77, 10**100 - 78, slip), True)
        self.assertIs(is_taken(8, top, 77, 10**100 - 77, slip), False)
        self.assertTrue(moved_top(8, top, 77, slip, 10**100 - 78, None) == top_of(8, rows[:77] + rows[78:]))

    def test_slips_of_long_numbers_are_not_paired_far_above_the_top(self):
        below = pairing.pairs_below

        def short(total):
            # Pairs of numbers above the top would soon have too many figures to be reckoned with.
            self.assertLessEqual(total.bit_length(), LONGEST.bit_length() + 1)
            return below(total)

        with mock.patch.object(pairing, "pairs_below", short):
            for slip in ([LONGEST] * 8, [0] * 7 + [LONGEST], [LONGEST] + [0] * 7, [LONGEST] * 1000):
                for top in (0, 1000, LONGEST, -LONGEST):
                    for key in (0, 255):
                        self.assertIs(is_taken(8, top, key, 10**99, slip), False)
                        with self.assertRaises(NotTaken):
                            moved_top(8, top, key, slip, None, 10**99)

    def test_lists_handed_in_stay_as_they_are(self):
        for rows in (TWO, [], TWO[::-1]):
            before = copy.deepcopy(rows)
            slip_for(2, rows, 1)
            self.assertEqual(rows, before)
        for slip in ([5, 5], [5], [], [5, 5, 5], [5, 4], [5, -1], [1000, 0]):
            before = list(slip)
            for called in (
                lambda: is_taken(2, TWO_TOP, 1, None, slip), lambda: moved_top(2, TWO_TOP, 1, slip, None, 3)
            ):
                try:
                    called()
                except SlipError:
                    pass
                self.assertEqual(slip, before)

    def test_rows_that_are_refused_stay_as_they_are(self):
        for rows in ([(3, 1), (4, 0)], [(3, 1), (0, -1)], [(3, 1), (3, 1)]):
            before = copy.deepcopy(rows)
            with self.assertRaises(SlipError):
                slip_for(2, rows, 1)
            self.assertEqual(rows, before)

    def test_the_same_answer_each_time(self):
        slip_for(2, TWO, 1).append("changed by its owner")
        self.assertEqual(slip_for(2, TWO, 1), [5, 5])
        self.assertEqual(slip_for(2, TWO, 0), [0, 5])


if __name__ == "__main__":
    unittest.main()
