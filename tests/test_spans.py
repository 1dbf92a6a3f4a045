"""Points 11 to 13, and of points 1 to 5 what they ask of spans.

Long numbers are compared by assertTrue(a == b): Python can't write them out in a message.
"""

import copy
import inspect
import itertools
import unittest
from unittest import mock

from reckoned import (
    DEPTHS, LONGEST, WRONG_DEPTHS, RefusalCase, all_rows, first_refusal, some_rows, span_by_hand, top_by_hand,
    wrong_keys,
)
from topslip import pairing
from topslip.errors import BadDepth, BadKey, BadNumber, BadSpan, SlipError
from topslip.slips import slip_for
from topslip.spans import is_span, span_for
from topslip.tops import rows_of, top_of

# Worked out by hand. Depth 2: the places 5, 0, 0, 2; the pairs 15 and 5.
TWO = [(3, 1), (0, 4)]
TWO_TOP = 215
TWO_SPANS = {
    (0, 0): [0, 5], (1, 1): [5, 5], (2, 2): [15, 2], (3, 3): [15, 0], (0, 1): [5], (2, 3): [15], (1, 2): [5, 2],
    (0, 2): [2], (1, 3): [5], (0, 3): [],
}
# Depth 3: the places 1, 0, 1, 0, 0, 1, 0, 1; the pairs 1, 1, 2, 2; of these 4 and 12.
THREE = [(0, 0), (2, 0), (5, 0), (7, 0)]
THREE_TOP = 148
THREE_SPANS = {
    (0, 7): [], (0, 0): [0, 1, 12], (7, 7): [4, 2, 0], (3, 3): [1, 1, 12], (4, 4): [4, 1, 2], (5, 5): [4, 0, 2],
    (1, 6): [1, 1], (3, 4): [1, 1, 1, 2], (2, 5): [1, 2], (4, 7): [4], (0, 3): [12], (1, 4): [1, 1, 2],
    (1, 7): [1], (0, 6): [1], (6, 6): [4, 2, 1], (2, 7): [1], (0, 5): [2], (0, 4): [1, 2], (3, 7): [1, 1],
}


def spans_of(depth):
    return [(first, last) for first in range(2**depth) for last in range(first, 2**depth)]


def some_spans(depth):
    """The whole tree, one place, and parts at either end and in the middle."""
    end = 2**depth - 1
    middle = end // 2
    ends = {(0, end), (0, 0), (end, end), (0, middle), (middle, end), (end // 3, end // 3), (middle, middle + 1)}
    ends |= {(1, end), (0, end - 1), (1, end - 1), (end // 3, end * 2 // 3), (middle + 1, end)}
    return sorted((first, last) for first, last in ends if 0 <= first <= last <= end)


def rows_within(rows, first, last):
    return [row for row in rows if first <= row[0] <= last]


class Interface(unittest.TestCase):
    def test_arguments(self):
        self.assertEqual(list(inspect.signature(span_for).parameters), ["depth", "rows", "first", "last"])
        self.assertEqual(
            list(inspect.signature(is_span).parameters), ["depth", "top", "first", "last", "rows", "numbers"]
        )
        self.assertEqual(span_for(depth=2, rows=TWO, first=1, last=2), [5, 2])
        self.assertIs(is_span(depth=2, top=TWO_TOP, first=1, last=2, rows=[], numbers=[5, 2]), True)

    def test_kinds(self):
        for span, expected in TWO_SPANS.items():
            numbers = span_for(2, TWO, *span)
            self.assertIs(type(numbers), list)
            self.assertEqual([type(number) for number in numbers], [int] * len(expected))

    def test_true_or_false_and_nothing_else(self):
        for numbers in ([], [5], [5, 2], [5, 2, 0], [0, 0], [5, LONGEST], [LONGEST, 2]):
            for rows in ([], [(1, 0)], [(0, 0)]):
                self.assertIs(type(is_span(2, TWO_TOP, 1, 2, rows, numbers)), bool)


class NumbersForSpans(unittest.TestCase):
    def test_depth_0_by_hand(self):
        self.assertEqual(span_for(0, [], 0, 0), [])
        self.assertEqual(span_for(0, [(0, 41)], 0, 0), [])

    def test_depth_1_by_hand(self):
        rows = [(0, 3), (1, 1)]
        self.assertEqual(span_for(1, rows, 0, 0), [2])
        self.assertEqual(span_for(1, rows, 1, 1), [4])
        self.assertEqual(span_for(1, rows, 0, 1), [])
        self.assertEqual(span_for(1, [], 0, 0), [0])

    def test_depth_2_by_hand(self):
        self.assertEqual(sorted(TWO_SPANS), spans_of(2))
        for (first, last), numbers in TWO_SPANS.items():
            with self.subTest(first=first, last=last):
                self.assertEqual(span_for(2, TWO, first, last), numbers)

    def test_depth_3_by_hand(self):
        for (first, last), numbers in THREE_SPANS.items():
            with self.subTest(first=first, last=last):
                self.assertEqual(span_for(3, THREE, first, last), numbers)

    def test_depth_8_by_hand(self):
        # The row at the leftmost place leads to 1 at each level, since the pair (1, 0) is 1.
        rows = [(0, 0)]
        self.assertEqual(span_for(8, rows, 0, 255), [])
        self.assertEqual(span_for(8, rows, 0, 0), [0] * 8)
        self.assertEqual(span_for(8, rows, 1, 255), [1])
        self.assertEqual(span_for(8, rows, 0, 254), [0])
        self.assertEqual(span_for(8, rows, 1, 254), [1, 0])
        self.assertEqual(span_for(8, rows, 128, 255), [1])
        self.assertEqual(span_for(8, rows, 0, 127), [0])
        self.assertEqual(span_for(8, rows, 255, 255), [1] + [0] * 7)
        self.assertEqual(span_for(8, rows, 127, 128), [1] + [0] * 13)
        self.assertEqual(span_for(8, rows, 64, 191), [1, 0])

    def test_from_left_to_right(self):
        # One row in each greatest part outside of the span from 3 to 4, each with another number.
        rows = [(0, 0), (2, 1), (5, 2), (6, 3)]
        self.assertEqual(span_for(3, rows, 3, 4), [1, 2, 3, 10])

    def test_by_another_way(self):
        for depth in (0, 1, 2, 3, 4):
            for rows in some_rows(depth):
                for first, last in spans_of(depth):
                    self.assertTrue(span_for(depth, rows, first, last) == span_by_hand(depth, rows, first, last))
        for depth in (5, 6, 7, 8):
            for rows in some_rows(depth)[3:5]:
                for first, last in some_spans(depth):
                    self.assertTrue(span_for(depth, rows, first, last) == span_by_hand(depth, rows, first, last))

    def test_any_order_of_rows(self):
        for order in itertools.permutations(THREE):
            self.assertEqual(span_for(3, list(order), 3, 4), [1, 1, 1, 2])

    def test_rows_in_the_span_are_not_in_the_numbers(self):
        for rows in ([], [(1, 0)], [(1, 9), (2, 10**99)]):
            self.assertEqual(span_for(2, TWO + rows, 1, 2), [5, 2])

    def test_one_place_has_the_numbers_of_its_slip(self):
        for depth in DEPTHS:
            for rows in some_rows(depth):
                for key in {0, 2**depth // 3, 2**depth - 1}:
                    numbers = span_for(depth, rows, key, key)
                    self.assertTrue(sorted(numbers) == sorted(slip_for(depth, rows, key)))


class Taken(unittest.TestCase):
    def test_depth_0_by_hand(self):
        self.assertIs(is_span(0, 42, 0, 0, [(0, 41)], []), True)
        self.assertIs(is_span(0, 0, 0, 0, [], []), True)
        self.assertIs(is_span(0, 42, 0, 0, [(0, 42)], []), False)
        self.assertIs(is_span(0, 42, 0, 0, [], []), False)
        self.assertIs(is_span(0, 0, 0, 0, [(0, 0)], []), False)
        self.assertIs(is_span(0, 42, 0, 0, [(0, 41)], [0]), False)
        self.assertIs(is_span(0, 42, 0, 0, [], [42]), False)

    def test_depth_1_by_hand(self):
        self.assertIs(is_span(1, 23, 0, 0, [(0, 3)], [2]), True)
        self.assertIs(is_span(1, 23, 1, 1, [(1, 1)], [4]), True)
        self.assertIs(is_span(1, 23, 0, 1, [(1, 1), (0, 3)], []), True)
        self.assertIs(is_span(1, 23, 0, 0, [(0, 1)], [4]), False)
        self.assertIs(is_span(1, 23, 0, 0, [], [2]), False)
        self.assertIs(is_span(1, 23, 0, 1, [(0, 3)], []), False)
        self.assertIs(is_span(1, 23, 0, 1, [(0, 3), (1, 1)], [0]), False)

    def test_depths_2_and_3_by_hand(self):
        for depth, top, rows, spans in ((2, TWO_TOP, TWO, TWO_SPANS), (3, THREE_TOP, THREE, THREE_SPANS)):
            for (first, last), numbers in spans.items():
                with self.subTest(depth=depth, first=first, last=last):
                    within = rows_within(rows, first, last)
                    self.assertIs(is_span(depth, top, first, last, within, numbers), True)
                    self.assertIs(is_span(depth, top, first, last, within[::-1], numbers), True)
                    self.assertIs(is_span(depth, top + 1, first, last, within, numbers), False)
                    self.assertIs(is_span(depth, top - 1, first, last, within, numbers), False)

    def test_depth_8_by_hand(self):
        self.assertIs(is_span(8, 1, 0, 255, [(0, 0)], []), True)
        self.assertIs(is_span(8, 1, 0, 255, [], []), False)
        self.assertIs(is_span(8, 0, 0, 255, [], []), True)
        self.assertIs(is_span(8, 1, 0, 0, [(0, 0)], [0] * 8), True)
        self.assertIs(is_span(8, 1, 1, 255, [], [1]), True)
        self.assertIs(is_span(8, 1, 1, 255, [], [0]), False)
        self.assertIs(is_span(8, 1, 255, 255, [], [1] + [0] * 7), True)
        self.assertIs(is_span(8, 1, 255, 255, [], [0] * 7 + [1]), False)
        self.assertIs(is_span(8, 1, 127, 128, [], [1] + [0] * 13), True)
        self.assertIs(is_span(8, 1, 64, 191, [], [1, 0]), True)
        self.assertIs(is_span(8, 1, 64, 191, [], [0, 1]), False)

    def test_the_rows_and_numbers_of_each_span(self):
        for depth in DEPTHS:
            for rows in some_rows(depth):
                top = top_of(depth, rows)
                for first, last in spans_of(depth) if depth < 4 else some_spans(depth):
                    numbers = span_for(depth, rows, first, last)
                    within = rows_within(rows, first, last)
                    self.assertIs(is_span(depth, top, first, last, within, numbers), True)
                    self.assertIs(is_span(depth, top, first, last, within[::-1], numbers), True)
                    self.assertIs(is_span(depth, top + 1, first, last, within, numbers), False)

    def test_one_number_too_few_or_too_many(self):
        for depth in DEPTHS:
            for rows in some_rows(depth):
                top = top_of(depth, rows)
                for first, last in some_spans(depth):
                    numbers = span_for(depth, rows, first, last)
                    within = rows_within(rows, first, last)
                    others = [numbers + [0], [0] + numbers, numbers + [1], numbers + [top], [0] * 1000]
                    if numbers:
                        others += [numbers[:-1], numbers[1:], []]
                    for other in others:
                        self.assertIs(is_span(depth, top, first, last, within, other), False)

    def test_too_few_or_too_many_noughts(self):
        for depth in DEPTHS:
            for first, last in some_spans(depth):
                right = len(span_for(depth, [], first, last))
                for count in range(20):
                    self.assertIs(is_span(depth, 0, first, last, [], [0] * count), count == right)

    def test_one_number_changed(self):
        for depth in DEPTHS:
            for rows in some_rows(depth):
                top = top_of(depth, rows)
                for first, last in some_spans(depth):
                    numbers = span_for(depth, rows, first, last)
                    within = rows_within(rows, first, last)
                    for at in range(len(numbers)):
                        for number in (numbers[at] + 1, max(numbers[at] - 1, 0), numbers[at] + 10**99, LONGEST):
                            other = numbers[:at] + [number] + numbers[at + 1:]
                            taken = is_span(depth, top, first, last, within, other)
                            self.assertIs(taken, number == numbers[at])

    def test_numbers_in_another_order(self):
        rows = [(0, 0), (2, 1), (5, 2), (6, 3)]
        top = top_of(3, rows)
        for order in itertools.permutations([1, 2, 3, 10]):
            self.assertIs(is_span(3, top, 3, 4, [], list(order)), order == (1, 2, 3, 10))

    def test_rows_with_one_changed(self):
        for depth in DEPTHS:
            for rows in some_rows(depth)[1:]:
                top = top_of(depth, rows)
                for first, last in some_spans(depth):
                    numbers = span_for(depth, rows, first, last)
                    within = rows_within(rows, first, last)
                    if within:
                        key, value = within[0]
                        self.assertIs(is_span(depth, top, first, last, within[1:], numbers), False)
                        changed = [(key, value + 1)] + within[1:]
                        self.assertIs(is_span(depth, top, first, last, changed, numbers), False)
                    if len(within) <= last - first:
                        missing = [key for key in range(first, last + 1) if key not in dict(within)][0]
                        self.assertIs(is_span(depth, top, first, last, within + [(missing, 0)], numbers), False)

    def test_rows_outside_of_the_span(self):
        # The right rows of the tree, but not of the span, with the right numbers for the span.
        for depth in range(1, 9):
            for rows in some_rows(depth)[1:]:
                top = top_of(depth, rows)
                for first, last in some_spans(depth):
                    numbers = span_for(depth, rows, first, last)
                    within = rows_within(rows, first, last)
                    for row in [row for row in rows if row not in within][:3]:
                        self.assertIs(is_span(depth, top, first, last, within + [row], numbers), False)
                        self.assertIs(is_span(depth, top, first, last, [row] + within, numbers), False)
                    for key in (first - 1, last + 1):
                        if 0 <= key < 2**depth:
                            self.assertIs(is_span(depth, top, first, last, within + [(key, 0)], numbers), False)

    def test_just_the_rows_and_numbers_of_the_span(self):
        sets = all_rows(2, [0, 1])
        for first, last in spans_of(2):
            told = {(tuple(rows_within(rows, first, last)), tuple(span_by_hand(2, rows, first, last))) for rows in sets}
            for rows in sets[::4]:
                top = top_by_hand(2, rows)
                taken = [(held, numbers) for held, numbers in told
                         if is_span(2, top, first, last, list(held), list(numbers))]
                right = (tuple(rows_within(rows, first, last)), tuple(span_by_hand(2, rows, first, last)))
                self.assertEqual(taken, [right])

    def test_another_span(self):
        for (first, last), (other_first, other_last) in itertools.product(TWO_SPANS, repeat=2):
            rows = rows_within(TWO, first, last)
            taken = is_span(2, TWO_TOP, other_first, other_last, rows, TWO_SPANS[first, last])
            within = rows_within(TWO, other_first, other_last)
            right = (sorted(rows), TWO_SPANS[first, last]) == (sorted(within), TWO_SPANS[other_first, other_last])
            self.assertIs(taken, right)

    def test_a_top_below_nought_takes_nothing(self):
        for depth in DEPTHS:
            for top in (-1, -2, -(10**99), -LONGEST):
                for first, last in some_spans(depth):
                    numbers = span_for(depth, [], first, last)
                    self.assertIs(is_span(depth, top, first, last, [], numbers), False)
                    self.assertIs(is_span(depth, top, first, last, [(first, 3)], numbers), False)


class Refusals(RefusalCase):
    def test_depth(self):
        for depth in WRONG_DEPTHS:
            with self.subTest(depth=depth):
                self.check(BadDepth, span_for, depth, [], 0, 0)
                self.check(BadDepth, is_span, depth, 0, 0, 0, [], [])

    def test_rows(self):
        for depth in DEPTHS:
            wrong = [([(0, 0), (key, 0)], BadKey) for key in wrong_keys(depth)]
            wrong += [
                ([(0, 0), (0, 0)], BadKey), ([(0, -1)], BadNumber), ([(0, -1), (0, 0)], BadKey),
                ([(0, -1), (2**depth, 0)], BadKey),
            ]
            for rows, refusal in wrong:
                self.check(refusal, span_for, depth, rows, 0, 0)
                self.check(refusal, is_span, depth, 0, 0, 0, rows, [0] * depth)

    def test_rows_outside_of_the_span(self):
        for rows, refusal in (([(3, -1)], BadNumber), ([(3, 0), (3, 0)], BadKey), ([(3, 0), (4, 0)], BadKey)):
            self.check(refusal, span_for, 2, rows, 0, 1)
            self.check(refusal, is_span, 2, 0, 0, 1, rows, [0])

    def test_keys(self):
        for depth in DEPTHS:
            for key in wrong_keys(depth):
                for first, last in ((key, 0), (0, key), (key, 2**depth - 1), (2**depth - 1, key), (key, key)):
                    with self.subTest(depth=depth, first=first, last=last):
                        self.check(BadKey, span_for, depth, [], first, last)
                        self.check(BadKey, is_span, depth, 0, first, last, [], [])

    def test_last_is_less(self):
        for depth in DEPTHS:
            for first, last in spans_of(depth) if depth < 4 else some_spans(depth):
                if first < last:
                    with self.subTest(depth=depth, first=last, last=first):
                        self.check(BadSpan, span_for, depth, [], last, first)
                        self.check(BadSpan, is_span, depth, 0, last, first, [], [])
                        self.check(BadSpan, is_span, depth, -1, last, first, [], [0] * depth)

    def test_numbers(self):
        for depth in DEPTHS:
            for first, last in some_spans(depth):
                right = span_for(depth, [], first, last)
                for number in (-1, -2, -LONGEST):
                    for at in range(len(right)):
                        numbers = right[:at] + [number] + right[at + 1:]
                        self.check(BadNumber, is_span, depth, 0, first, last, [], numbers)
                    self.check(BadNumber, is_span, depth, 0, first, last, [], right + [number])
                    self.check(BadNumber, is_span, depth, 0, first, last, [], [number] * 1000)

    def test_numbers_where_it_is_not_taken_anyhow(self):
        self.check(BadNumber, is_span, 2, 5, 1, 2, [(0, 0)], [5, -1])
        self.check(BadNumber, is_span, 2, 5, 1, 2, [], [100, -1])
        self.check(BadNumber, is_span, 2, 5, 1, 2, [(1, 100)], [5, -1])
        self.check(BadNumber, is_span, 2, -5, 1, 2, [], [5, -1])
        self.check(BadNumber, is_span, 2, 5, 1, 2, [], [-1])

    def test_order_of_span_for(self):
        wrong_rows = [(TWO, None), ([(4, 0)], BadKey), ([(1, -1)], BadNumber), ([(1, -1), (1, 0)], BadKey)]
        for depth, (rows, of_rows), first, last in itertools.product((2, 9), wrong_rows, (1, 4, -1), (2, 0, 4, -1)):
            with self.subTest(depth=depth, rows=rows, first=first, last=last):
                refusal = first_refusal([
                    (depth == 9, BadDepth), (of_rows, of_rows), (first != 1, BadKey), (last in (4, -1), BadKey),
                    (last < first, BadSpan),
                ])
                self.check(refusal, span_for, depth, rows, first, last)

    def test_order_of_is_span(self):
        wrong_rows = [
            ([], None), ([(0, 4)], None), ([(4, 0)], BadKey), ([(1, -1)], BadNumber), ([(1, -1), (1, 0)], BadKey),
        ]
        faults = itertools.product(
            (2, -1), (TWO_TOP, 0, -1), (1, 4, -1), (2, 0, 4, -1), wrong_rows, ([5, 2], [5], [5, -1], [5, 2, -1])
        )
        for depth, top, first, last, (rows, of_rows), numbers in faults:
            with self.subTest(depth=depth, top=top, first=first, last=last, rows=rows, numbers=numbers):
                refusal = first_refusal([
                    (depth == -1, BadDepth), (of_rows, of_rows), (first != 1, BadKey), (last in (4, -1), BadKey),
                    (last < first, BadSpan), (-1 in numbers, BadNumber),
                ])
                self.check(refusal, is_span, depth, top, first, last, rows, numbers)


class SizesAndNothingChanged(unittest.TestCase):
    def test_tops_of_a_hundred_thousand_figures(self):
        for depth in (1, 3, 8):
            rows = rows_of(depth, LONGEST)
            for first, last in some_spans(depth):
                numbers = span_for(depth, rows, first, last)
                within = rows_within(rows, first, last)
                self.assertIs(is_span(depth, LONGEST, first, last, within, numbers), True)
                self.assertIs(is_span(depth, LONGEST - 1, first, last, within, numbers), False)

    def test_values_of_a_hundred_figures(self):
        rows = [(key, 10**100 - 1 - key) for key in range(256)]
        top = top_of(8, rows)
        for first, last in ((0, 255), (100, 163), (77, 77)):
            numbers = span_for(8, rows, first, last)
            self.assertTrue(numbers == span_by_hand(8, rows, first, last))
            self.assertIs(is_span(8, top, first, last, rows[first:last + 1], numbers), True)
            self.assertIs(is_span(8, top, first, last, rows[first:last], numbers), False)

    def test_long_numbers_are_not_paired_far_above_the_top(self):
        below = pairing.pairs_below

        def short(total):
            # Pairs of numbers above the top would soon have too many figures to be reckoned with.
            self.assertLessEqual(total.bit_length(), LONGEST.bit_length() + 1)
            return below(total)

        with mock.patch.object(pairing, "pairs_below", short):
            for first, last, count in ((0, 0, 8), (255, 255, 8), (127, 128, 14), (1, 254, 2), (0, 255, 1000)):
                for numbers in ([LONGEST] * count, [0] * (count - 1) + [LONGEST], [LONGEST] + [0] * (count - 1)):
                    for top in (0, 1000, LONGEST, -LONGEST):
                        self.assertIs(is_span(8, top, first, last, [(first, 10**99)], numbers), False)

    def test_lists_handed_in_stay_as_they_are(self):
        for rows in (TWO, TWO[::-1], [], [(1, 0)], [(4, 0)], [(1, -1)], [(1, 0), (1, 0)]):
            for numbers in ([5, 2], [5], [], [5, 2, 0], [5, -1], [1000, 0]):
                for first, last in ((1, 2), (0, 3), (2, 1), (0, 4)):
                    before = copy.deepcopy((rows, numbers))
                    for called in (
                        lambda: span_for(2, rows, first, last),
                        lambda: is_span(2, TWO_TOP, first, last, rows, numbers),
                    ):
                        try:
                            called()
                        except SlipError:
                            pass
                        self.assertEqual((rows, numbers), before)

    def test_the_same_answer_each_time(self):
        span_for(2, TWO, 1, 2).append("changed by its owner")
        self.assertEqual(span_for(2, TWO, 1, 2), [5, 2])
        span_for(2, TWO, 0, 3).append("changed by its owner")
        self.assertEqual(span_for(2, TWO, 0, 3), [])


if __name__ == "__main__":
    unittest.main()
