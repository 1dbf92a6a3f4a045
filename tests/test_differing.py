"""Point 14, and of points 1 to 6 what they ask of two tops.

Long numbers are compared by assertTrue(a == b): Python can't write them out in a message.
"""

import inspect
import itertools
import unittest

from reckoned import (
    DEPTHS, LONGEST, WRONG_DEPTHS, RefusalCase, all_rows, differing_by_hand, some_rows, top_by_hand,
)
from topslip.differing import differing
from topslip.errors import BadDepth, BadNumber
from topslip.tops import rows_of, top_of


class Interface(unittest.TestCase):
    def test_arguments(self):
        self.assertEqual(list(inspect.signature(differing).parameters), ["depth", "one", "two"])
        self.assertEqual(differing(depth=1, one=23, two=8), ([(0, 3, 0)], 1))

    def test_kinds(self):
        for depth, one, two in ((0, 1, 1), (0, 1, 2), (2, 215, 383), (2, 215, 215)):
            answer = differing(depth, one, two)
            self.assertIs(type(answer), tuple)
            self.assertEqual([type(part) for part in answer], [list, int])
            for found in answer[0]:
                self.assertIs(type(found), tuple)
                self.assertEqual(len(found), 3)
                self.assertIs(type(found[0]), int)


class ByHand(unittest.TestCase):
    def check(self, depth, one, two, keys, opened):
        with self.subTest(depth=depth, one=one, two=two):
            self.assertEqual(differing(depth, one, two), (keys, opened))
            turned = [(key, second, first) for key, first, second in keys]
            self.assertEqual(differing(depth, two, one), (turned, opened))

    def test_the_same_tops(self):
        for depth in DEPTHS:
            for top in (0, 1, 2, 215, 10**99, LONGEST):
                self.assertEqual(differing(depth, top, top), ([], 0))

    def test_depth_0(self):
        # There is no part of more than one place, so nothing is opened.
        self.check(0, 42, 7, [(0, 41, 6)], 0)
        self.check(0, 0, 5, [(0, None, 4)], 0)
        self.check(0, 0, 1, [(0, None, 0)], 0)

    def test_depth_1(self):
        # The places of 23 are 4 and 2, of 25 they are 2 and 4, of 8 they are 1 and 2.
        self.check(1, 23, 25, [(0, 3, 1), (1, 1, 3)], 1)
        self.check(1, 23, 8, [(0, 3, 0)], 1)
        self.check(1, 23, 0, [(0, 3, None), (1, 1, None)], 1)
        self.check(1, 0, 2, [(1, None, 0)], 1)

    def test_depth_2(self):
        # The places of 215 are 5, 0, 0, 2 with the pairs 15 and 5; of 383 they are 5, 1, 0, 2; of
        # 155 they are 5, 0, 0, 1; of 40 they are 1, 1, 1, 1; of 4 they are 1, 0, 1, 0.
        self.check(2, 215, 383, [(1, None, 0)], 2)
        self.check(2, 215, 155, [(3, 1, 0)], 2)
        self.check(2, 383, 155, [(1, 0, None), (3, 1, 0)], 3)
        self.check(2, 215, 40, [(0, 4, 0), (1, None, 0), (2, None, 0), (3, 1, 0)], 3)
        self.check(2, 40, 4, [(1, 0, None), (3, 0, None)], 3)
        # The places of 20 are 0, 0, 0, 2: the right pair is the same as that of 215.
        self.check(2, 215, 20, [(0, 4, None)], 2)

    def test_depth_2_with_both_keys_of_one_pair(self):
        # The places 1, 0, 0, 0 and 0, 1, 0, 0: the right pair is not opened.
        self.check(2, 1, 3, [(0, 0, None), (1, None, 0)], 2)

    def test_depth_3(self):
        # The places of 148 are 1, 0, 1, 0, 0, 1, 0, 1; of 50 they are the same but for the sixth;
        # of 140 they are 0, 1, 0, 1, 1, 0, 1, 0.
        self.check(3, 148, 50, [(5, 0, None)], 3)
        turned = [(key, None, 0) if key in (1, 3, 4, 6) else (key, 0, None) for key in range(8)]
        self.check(3, 148, 140, turned, 7)
        self.check(3, 0, 20, [(7, None, 0)], 3)

    def test_depth_8(self):
        self.check(8, 0, 1, [(0, None, 0)], 8)
        self.check(8, 1, top_of(8, [(0, 1)]), [(0, 0, 1)], 8)
        self.check(8, 1, top_of(8, [(255, 0)]), [(0, 0, None), (255, None, 0)], 15)
        # The keys 0 and 1 stand under one pair: no more is opened than for one of them.
        self.check(8, 0, top_of(8, [(0, 0), (1, 0)]), [(0, None, 0), (1, None, 0)], 8)
        # The keys 0 and 2 stand under two pairs, which stand under one part.
        self.check(8, 0, top_of(8, [(0, 0), (2, 0)]), [(0, None, 0), (2, None, 0)], 9)

    def test_parts_of_one_place_are_not_opened(self):
        # Two rows under one pair, with one part of one place that is the same and one that isn't.
        self.check(1, top_of(1, [(0, 7), (1, 5)]), top_of(1, [(0, 7), (1, 6)]), [(1, 5, 6)], 1)


class AnyTops(unittest.TestCase):
    def test_one_key(self):
        for depth in DEPTHS:
            for rows in some_rows(depth):
                for key in {0, 2**depth // 3, 2**depth - 1}:
                    old = dict(rows).get(key)
                    others = [row for row in rows if row[0] != key]
                    for new in (None, 0, 5, 10**99):
                        changed = others if new is None else others + [(key, new)]
                        answer = differing(depth, top_of(depth, rows), top_of(depth, changed))
                        self.assertTrue(answer == (([], 0) if old == new else ([(key, old, new)], depth)))

    def test_all_keys(self):
        for depth in DEPTHS:
            one = [(key, key) for key in range(2**depth)]
            two = [(key, key + 1) for key in range(2**depth)]
            keys = [(key, key, key + 1) for key in range(2**depth)]
            self.assertTrue(differing(depth, top_of(depth, one), top_of(depth, two)) == (keys, 2**depth - 1))
            none = [(key, None, key) for key in range(2**depth)]
            self.assertTrue(differing(depth, 0, top_of(depth, one)) == (none, 2**depth - 1))

    def test_all_small_trees(self):
        sets = all_rows(2, [0, 1])
        for one, two in itertools.product(sets, repeat=2):
            answer = differing(2, top_by_hand(2, one), top_by_hand(2, two))
            self.assertEqual(answer, differing_by_hand(2, one, two))

    def test_by_another_way(self):
        for depth in DEPTHS:
            sets = some_rows(depth)
            for one, two in itertools.product(sets if depth < 6 else sets[1:5], repeat=2):
                answer = differing(depth, top_of(depth, one), top_of(depth, two))
                self.assertTrue(answer == differing_by_hand(depth, one, two))

    def test_small_tops_whatever_their_rows(self):
        for depth in (0, 1, 2, 3):
            for one, two in itertools.product(range(25), repeat=2):
                answer = differing(depth, one, two)
                self.assertEqual(answer, differing_by_hand(depth, rows_of(depth, one), rows_of(depth, two)))

    def test_keys_rise(self):
        for depth in DEPTHS:
            keys = [found[0] for found in differing(depth, 10**500, 7**700)[0]]
            self.assertTrue(keys)
            self.assertEqual(keys, sorted(set(keys)))


class Refusals(RefusalCase):
    def test_depth(self):
        for depth in WRONG_DEPTHS:
            for one, two in ((0, 0), (0, 1), (5, 5), (-1, 0), (0, -1), (-1, -1)):
                self.check(BadDepth, differing, depth, one, two)

    def test_tops_below_nought(self):
        for depth in DEPTHS:
            for top in (-1, -2, -(10**99), -LONGEST):
                for other in (0, 1, 215, 10**99):
                    self.check(BadNumber, differing, depth, top, other)
                    self.check(BadNumber, differing, depth, other, top)
                # Also where both are the same, so that nothing would be opened.
                self.check(BadNumber, differing, depth, top, top)
                self.check(BadNumber, differing, depth, top, -1)


class Sizes(unittest.TestCase):
    def test_tops_of_a_hundred_thousand_figures(self):
        for depth in DEPTHS:
            other = 7**118_000
            keys, opened = differing(depth, LONGEST, other)
            one, two = dict(rows_of(depth, LONGEST)), dict(rows_of(depth, other))
            right = [(key, one.get(key), two.get(key)) for key in range(2**depth) if one.get(key) != two.get(key)]
            self.assertTrue(keys == right)
            self.assertTrue(opened <= 2**depth - 1)

    def test_the_same_answer_each_time(self):
        differing(2, 215, 383)[0].append("changed by its owner")
        self.assertEqual(differing(2, 215, 383), ([(1, None, 0)], 2))


if __name__ == "__main__":
    unittest.main()
