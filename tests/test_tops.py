"""Points 3 to 6, and of point 1 that nothing is changed, and the sizes.

Long numbers are compared by assertTrue(a == b): Python can't write them out in a message.
"""

import copy
import inspect
import itertools
import unittest

from reckoned import DEPTHS, LONGEST, WRONG_DEPTHS, top_by_hand
from topslip.errors import BadDepth, BadKey, BadNumber
from topslip.tops import rows_of, top_of


def full_rows(depth, value=0):
    return [(key, value + key) for key in range(2**depth)]


class Interface(unittest.TestCase):
    def test_arguments(self):
        self.assertEqual(list(inspect.signature(top_of).parameters), ["depth", "rows"])
        self.assertEqual(list(inspect.signature(rows_of).parameters), ["depth", "top"])
        self.assertEqual(top_of(depth=1, rows=[(1, 1)]), 5)
        self.assertEqual(rows_of(depth=1, top=5), [(1, 1)])

    def test_kinds(self):
        self.assertIs(type(top_of(2, [(1, 1)])), int)
        self.assertIs(type(top_of(2, [])), int)
        rows = rows_of(2, 1000)
        self.assertIs(type(rows), list)
        self.assertTrue(rows)
        for row in rows:
            self.assertIs(type(row), tuple)
            self.assertEqual([type(part) for part in row], [int, int])


class Depths(unittest.TestCase):
    def test_each_depth_has_its_count_of_places(self):
        for depth, count in enumerate([1, 2, 4, 8, 16, 32, 64, 128, 256]):
            with self.subTest(depth=depth):
                self.assertTrue(rows_of(depth, top_of(depth, [(count - 1, 3)])) == [(count - 1, 3)])
                with self.assertRaises(BadKey):
                    top_of(depth, [(count, 3)])

    def test_places_are_counted_from_left_to_right(self):
        for depth in DEPTHS:
            with self.subTest(depth=depth):
                # The leftmost place: each pair is (1, 0), the number of which is 1.
                self.assertEqual(top_of(depth, [(0, 0)]), 1)
                self.assertEqual(rows_of(depth, 1), [(0, 0)])

    def test_another_depth_is_refused(self):
        for depth in WRONG_DEPTHS:
            with self.subTest(depth=depth):
                with self.assertRaises(BadDepth):
                    top_of(depth, [])
                with self.assertRaises(BadDepth):
                    top_of(depth, [(0, 0)])
                with self.assertRaises(BadDepth):
                    rows_of(depth, 0)
                with self.assertRaises(BadDepth):
                    rows_of(depth, 5)

    def test_refused_ahead_of_wrong_rows_and_tops(self):
        wrong_rows = ([(-1, 0)], [(10**99, 0)], [(0, 0), (0, 0)], [(0, -1)], [(-1, -1)])
        for depth in WRONG_DEPTHS:
            with self.subTest(depth=depth):
                for rows in wrong_rows:
                    with self.assertRaises(BadDepth):
                        top_of(depth, rows)
                with self.assertRaises(BadDepth):
                    rows_of(depth, -1)


class Rows(unittest.TestCase):
    def test_any_order(self):
        rows = [(0, 4), (1, 0), (3, 9), (2, 1)]
        tops = [top_of(2, list(order)) for order in itertools.permutations(rows)]
        self.assertEqual(tops, [tops[0]] * 24)
        self.assertEqual(rows_of(2, tops[0]), [(0, 4), (1, 0), (2, 1), (3, 9)])

    def test_no_rows(self):
        for depth in DEPTHS:
            with self.subTest(depth=depth):
                self.assertEqual(top_of(depth, []), 0)
                self.assertEqual(rows_of(depth, 0), [])

    def test_rows_at_every_place(self):
        for depth in DEPTHS:
            with self.subTest(depth=depth):
                rows = full_rows(depth)
                top = top_of(depth, rows)
                self.assertTrue(top == top_by_hand(depth, rows))
                self.assertTrue(top == top_of(depth, rows[::-1]))
                self.assertTrue(rows_of(depth, top) == rows)

    def test_key_that_is_no_place(self):
        for depth in DEPTHS:
            for key in (-1, -2, -(2**depth), 2**depth, 2**depth + 1, 10**99, -(10**99)):
                with self.subTest(depth=depth, key=key):
                    with self.assertRaises(BadKey):
                        top_of(depth, [(key, 0)])
                    with self.assertRaises(BadKey):
                        top_of(depth, [(0, 0), (key, 0)])

    def test_key_that_two_rows_have(self):
        wrong = [
            (0, [(0, 1), (0, 1)]),
            (0, [(0, 1), (0, 2)]),
            (2, [(3, 1), (0, 1), (3, 5)]),
            (2, [(0, 0), (1, 0), (2, 0), (3, 0), (1, 0)]),
            (8, [(255, 7), (255, 7)]),
        ]
        for depth, rows in wrong:
            with self.subTest(depth=depth, rows=rows):
                with self.assertRaises(BadKey):
                    top_of(depth, rows)

    def test_value_below_nought(self):
        for depth in DEPTHS:
            for value in (-1, -2, -(10**99)):
                with self.subTest(depth=depth, value=value):
                    with self.assertRaises(BadNumber):
                        top_of(depth, [(0, value)])
                    with self.assertRaises(BadNumber):
                        top_of(depth, full_rows(depth)[:-1] + [(2**depth - 1, value)])

    def test_keys_of_all_rows_ahead_of_any_value(self):
        wrong = [
            (1, [(0, -1), (2, 0)]),
            (1, [(0, -1), (-1, 0)]),
            (1, [(0, -1), (0, 0)]),
            (1, [(0, -1), (1, 0), (1, 0)]),
            (1, [(0, -1), (1, -1), (0, -1)]),
            (1, [(2, -1)]),
            (3, [(5, -1), (0, 0), (1, 2), (8, 0)]),
        ]
        for depth, rows in wrong:
            with self.subTest(depth=depth, rows=rows):
                with self.assertRaises(BadKey):
                    top_of(depth, rows)


class Tops(unittest.TestCase):
    def check(self, depth, tops):
        for rows, top in tops:
            with self.subTest(depth=depth, rows=rows):
                self.assertEqual(top_of(depth, rows), top)
                self.assertEqual(rows_of(depth, top), sorted(rows))

    def test_depth_0_by_hand(self):
        self.check(0, [([], 0), ([(0, 0)], 1), ([(0, 1)], 2), ([(0, 41)], 42)])

    def test_depth_1_by_hand(self):
        self.check(1, [
            ([], 0),
            ([(0, 0)], 1),
            ([(1, 0)], 2),
            ([(0, 1)], 3),
            ([(0, 0), (1, 0)], 4),
            ([(1, 1)], 5),
            ([(0, 2)], 6),
            ([(0, 3), (1, 1)], 23),
            ([(1, 3), (0, 1)], 25),
        ])

    def test_depth_2_by_hand(self):
        self.check(2, [
            ([], 0),
            ([(0, 0)], 1),
            ([(2, 0)], 2),
            ([(1, 0)], 3),
            ([(3, 0)], 5),
            # The pairs (1, 0) and (1, 0) have the number 1 each, and (1, 1) has 4.
            ([(0, 0), (2, 0)], 4),
            # The pairs (1, 1) and (1, 1) have the number 4 each, and (4, 4) has 36 + 4.
            ([(0, 0), (1, 0), (2, 0), (3, 0)], 40),
            # The pairs (5, 0) and (0, 2) have the numbers 15 and 5, and (15, 5) has 210 + 5.
            ([(3, 1), (0, 4)], 215),
        ])

    def test_depth_3_by_hand(self):
        # The pairs from below: (0, 1) is 2, (0, 2) is 5, (0, 5) is 20; (2, 0) is 3, (0, 3) is 9.
        self.check(3, [([(0, 0)], 1), ([(7, 0)], 20), ([(5, 0)], 9)])

    def test_by_another_way(self):
        for depth in DEPTHS:
            for step in (1, 2, 3, 5, 7):
                rows = [(key, key * key % 11) for key in range(0, 2**depth, step)]
                self.assertTrue(top_of(depth, rows) == top_by_hand(depth, rows))


class JustOneSetOfRows(unittest.TestCase):
    def test_the_rows_of_a_top_have_that_top(self):
        for depth in DEPTHS:
            for top in list(range(400)) + [10**20, 10**99, 7**500]:
                rows = rows_of(depth, top)
                keys = [key for key, value in rows]
                self.assertEqual(keys, sorted(set(keys)))
                self.assertTrue(all(0 <= key < 2**depth for key in keys))
                self.assertTrue(all(value >= 0 for key, value in rows))
                self.assertTrue(top_of(depth, rows) == top)

    def test_each_top_has_rows_of_its_own(self):
        for depth in DEPTHS:
            found = {tuple(rows_of(depth, top)) for top in range(1000)}
            self.assertEqual(len(found), 1000)

    def test_all_small_sets_of_rows(self):
        tops = {}
        for values in itertools.product([None, 0, 1, 2], repeat=4):
            rows = [(key, value) for key, value in enumerate(values) if value is not None]
            top = top_of(2, rows)
            self.assertNotIn(top, tops)
            tops[top] = rows
            self.assertEqual(rows_of(2, top), rows)
            self.assertEqual(top_of(2, rows[::-1]), top)
        self.assertEqual(len(tops), 256)

    def test_a_row_with_nought_is_not_like_no_row(self):
        for depth in DEPTHS:
            for key in {0, 2**depth - 1}:
                self.assertNotEqual(top_of(depth, [(key, 0)]), top_of(depth, []))

    def test_keys_rise_whatever_the_order_handed_in(self):
        for depth in DEPTHS:
            rows = [(key, (key * 37) % 101) for key in range(0, 2**depth, 3)]
            turned = rows[len(rows) // 2:] + rows[: len(rows) // 2]
            for order in (rows, rows[::-1], turned):
                self.assertTrue(rows_of(depth, top_of(depth, order)) == rows)

    def test_top_below_nought(self):
        for depth in DEPTHS:
            for top in (-1, -2, -(10**99)):
                with self.subTest(depth=depth, top=top):
                    with self.assertRaises(BadNumber):
                        rows_of(depth, top)
            with self.assertRaises(BadNumber):
                rows_of(depth, -LONGEST)


class SizesAndNothingChanged(unittest.TestCase):
    def test_values_of_a_hundred_figures_at_every_place(self):
        for value in (10**99, 10**100 - 300, 10**120):
            rows = full_rows(8, value)
            top = top_of(8, rows)
            self.assertTrue(top == top_by_hand(8, rows))
            self.assertTrue(rows_of(8, top) == rows)

    def test_tops_of_a_hundred_thousand_figures(self):
        for depth in DEPTHS:
            for top in (LONGEST, 7**118_000):
                self.assertTrue(top_of(depth, rows_of(depth, top)) == top)

    def test_a_thousand_rows(self):
        with self.assertRaises(BadKey):
            top_of(8, [(place % 256, place) for place in range(1000)])
        with self.assertRaises(BadKey):
            top_of(8, [(place, 0) for place in range(1000)])

    def test_rows_handed_in_stay_as_they_are(self):
        right = ([], [(3, 1), (0, 4), (1, 0)], full_rows(2)[::-1])
        for rows in right:
            before = copy.deepcopy(rows)
            top_of(2, rows)
            self.assertEqual(rows, before)

    def test_rows_that_are_refused_stay_as_they_are(self):
        wrong = [[(3, 1), (4, 0)], [(3, 1), (0, -1)], [(3, 1), (3, 1)]]
        for rows in wrong:
            before = copy.deepcopy(rows)
            with self.assertRaises((BadKey, BadNumber)):
                top_of(2, rows)
            self.assertEqual(rows, before)

    def test_the_same_answer_each_time(self):
        rows = [(3, 1), (0, 4)]
        first = rows_of(2, top_of(2, rows))
        first.append("changed by its owner")
        self.assertEqual(rows_of(2, top_of(2, rows)), [(0, 4), (3, 1)])


if __name__ == "__main__":
    unittest.main()
