"""Point 2, and of point 1 the sizes of numbers.

Long numbers are compared by assertTrue(a == b): Python can't write them out in a message.
"""

import inspect
import unittest

from topslip.errors import BadNumber
from topslip.pairing import pair_of, parts_of

LISTED = [(0, 0), (1, 0), (0, 1), (2, 0), (1, 1), (0, 2), (3, 0)]
SOME_HUNDRED_FIGURES = [10**99, 10**100 - 1, 7**350, 10**299 + 1, 3**1000]
LONG = [10**49_999, 10**50_000 - 1, 7**59_000, 3**104_000]
LONGEST = [10**99_999, 10**100_000 - 1, 7**118_000, 3**209_000]


def pairs_one_by_one(count):
    """The pairs in the order of their numbers, found by walking and not by reckoning."""
    found = []
    total = 0
    while len(found) < count:
        found.extend((total - two, two) for two in range(total + 1))
        total += 1
    return found[:count]


class Pairs(unittest.TestCase):
    def test_interface(self):
        self.assertEqual(list(inspect.signature(pair_of).parameters), ["one", "two"])
        self.assertEqual(list(inspect.signature(parts_of).parameters), ["number"])

    def test_the_pairs_that_the_document_lists(self):
        for number, (one, two) in enumerate(LISTED):
            with self.subTest(number=number):
                self.assertEqual(pair_of(one, two), number)
                self.assertEqual(parts_of(number), (one, two))

    def test_kinds(self):
        self.assertIs(type(pair_of(4, 2)), int)
        parts = parts_of(23)
        self.assertIs(type(parts), tuple)
        self.assertEqual([type(part) for part in parts], [int, int])

    def test_reckoned_by_hand(self):
        self.assertEqual(pair_of(4, 2), 23)
        self.assertEqual(pair_of(2, 4), 25)
        self.assertEqual(pair_of(10, 0), 55)
        self.assertEqual(pair_of(0, 10), 65)
        self.assertEqual(pair_of(99, 1), 5051)
        self.assertEqual(parts_of(5049), (0, 99))
        self.assertEqual(parts_of(5050), (100, 0))

    def test_each_small_number_is_the_number_of_just_one_pair(self):
        for number, (one, two) in enumerate(pairs_one_by_one(20_000)):
            self.assertEqual(pair_of(one, two), number)
            self.assertEqual(parts_of(number), (one, two))

    def test_named_arguments(self):
        self.assertEqual(pair_of(one=4, two=2), 23)
        self.assertEqual(parts_of(number=23), (4, 2))


class LongNumbers(unittest.TestCase):
    def check_pair(self, one, two):
        total = one + two
        number = pair_of(one, two)
        self.assertTrue(2 * number == total * (total + 1) + 2 * two)
        self.assertTrue(parts_of(number) == (one, two))

    def check_number(self, number):
        one, two = parts_of(number)
        self.assertTrue(one >= 0 and two >= 0)
        self.assertTrue(pair_of(one, two) == number)

    def test_pairs_of_some_hundred_figures(self):
        for one in SOME_HUNDRED_FIGURES:
            for two in SOME_HUNDRED_FIGURES + [0, 1, one - 1]:
                self.check_pair(one, two)
                self.check_pair(two, one)

    def test_numbers_of_some_hundred_figures(self):
        for number in SOME_HUNDRED_FIGURES:
            for near in range(-3, 4):
                self.check_number(number + near)

    def test_first_and_last_number_of_a_total(self):
        for total in SOME_HUNDRED_FIGURES + LONG[1:3]:
            first = total * (total + 1) // 2
            self.assertTrue(parts_of(first) == (total, 0))
            self.assertTrue(parts_of(first - 1) == (0, total - 1))
            self.assertTrue(parts_of(first + total) == (0, total))
            self.assertTrue(parts_of(first + total + 1) == (total + 1, 0))

    def test_pairs_the_number_of_which_is_long(self):
        for one in LONG:
            for two in (0, 1, one, 10**40_000):
                self.check_pair(one, two)
                self.check_pair(two, one)

    def test_pairs_of_a_hundred_thousand_figures(self):
        self.check_pair(LONGEST[1], LONGEST[2])

    def test_numbers_of_a_hundred_thousand_figures(self):
        for number in LONGEST:
            self.check_number(number)

    def test_powers_of_two_and_their_neighbours(self):
        for exponent in list(range(1, 200)) + [1000, 4095, 4096, 4097]:
            for near in (-1, 0, 1):
                self.check_number(2**exponent + near)


class BelowNought(unittest.TestCase):
    def test_in_either_place_of_a_pair(self):
        for one, two in [(-1, 0), (0, -1), (-1, -1), (-1, 5), (5, -1), (-7, 7), (7, -7), (-(10**99), 10**99)]:
            with self.subTest(one=one, two=two):
                with self.assertRaises(BadNumber):
                    pair_of(one, two)

    def test_as_the_number_of_a_pair(self):
        for number in (-1, -2, -3, -100, -(10**99)):
            with self.subTest(number=number):
                with self.assertRaises(BadNumber):
                    parts_of(number)

    def test_long_ones(self):
        with self.assertRaises(BadNumber):
            pair_of(-LONGEST[1], 0)
        with self.assertRaises(BadNumber):
            pair_of(0, -LONGEST[1])
        with self.assertRaises(BadNumber):
            parts_of(-LONGEST[1])


if __name__ == "__main__":
    unittest.main()
