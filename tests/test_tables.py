"""Promises [5] and [6]: which table holds for a week or month."""

import unittest

from wagebook.tables import holding

FIRST = ((None, 1),)
SECOND = ((10, 2), (None, 3))
THIRD = (((None, 20),), 9, 50)
FAR = 10 ** 99 + 7


class HoldingTest(unittest.TestCase):
    def test_no_table_at_all(self):
        for when in (-FAR, -1, 0, 1, FAR):
            self.assertIsNone(holding({}, when))

    def test_ahead_of_every_key(self):
        self.assertIsNone(holding({5: FIRST, 9: SECOND}, 4))
        self.assertIsNone(holding({5: FIRST, 9: SECOND}, 0))
        self.assertIsNone(holding({5: FIRST, 9: SECOND}, -1))
        self.assertIsNone(holding({0: FIRST}, -1))

    def test_at_a_key_one_ahead_and_one_behind(self):
        tables = {5: FIRST, 9: SECOND, 10: THIRD}
        self.assertIsNone(holding(tables, 4))
        self.assertEqual(holding(tables, 5), FIRST)
        self.assertEqual(holding(tables, 6), FIRST)
        self.assertEqual(holding(tables, 8), FIRST)
        self.assertEqual(holding(tables, 9), SECOND)
        self.assertEqual(holding(tables, 10), THIRD)
        self.assertEqual(holding(tables, 11), THIRD)
        self.assertEqual(holding(tables, 10 ** 6), THIRD)

    def test_key_nought(self):
        self.assertEqual(holding({0: FIRST, 1: SECOND}, 0), FIRST)
        self.assertEqual(holding({-1: SECOND, 0: FIRST}, 0), FIRST)
        self.assertEqual(holding({-1: SECOND, 0: FIRST}, 3), FIRST)

    def test_keys_below_nought(self):
        tables = {-9: FIRST, -4: SECOND, 2: THIRD}
        self.assertIsNone(holding(tables, -10))
        self.assertEqual(holding(tables, -9), FIRST)
        self.assertEqual(holding(tables, -8), FIRST)
        self.assertEqual(holding(tables, -5), FIRST)
        self.assertEqual(holding(tables, -4), SECOND)
        self.assertEqual(holding(tables, -1), SECOND)
        self.assertEqual(holding(tables, 0), SECOND)
        self.assertEqual(holding(tables, 1), SECOND)
        self.assertEqual(holding(tables, 2), THIRD)

    def test_keys_told_in_no_order(self):
        for keys in ((9, -3, 5), (5, 9, -3), (-3, 5, 9), (9, 5, -3)):
            named = {-3: FIRST, 5: SECOND, 9: THIRD}
            tables = {key: named[key] for key in keys}
            self.assertIsNone(holding(tables, -4))
            self.assertEqual(holding(tables, -3), FIRST)
            self.assertEqual(holding(tables, 4), FIRST)
            self.assertEqual(holding(tables, 5), SECOND)
            self.assertEqual(holding(tables, 8), SECOND)
            self.assertEqual(holding(tables, 9), THIRD)

    def test_numbers_of_a_hundred_figures(self):
        tables = {FAR: THIRD, -FAR: FIRST, 0: SECOND}
        self.assertIsNone(holding(tables, -FAR - 1))
        self.assertEqual(holding(tables, -FAR), FIRST)
        self.assertEqual(holding(tables, -1), FIRST)
        self.assertEqual(holding(tables, 0), SECOND)
        self.assertEqual(holding(tables, FAR - 1), SECOND)
        self.assertEqual(holding(tables, FAR), THIRD)
        self.assertEqual(holding(tables, FAR * 1000), THIRD)
        self.assertIsNone(holding(tables, -FAR * 1000))

    def test_what_is_handed_in_stays_as_it_was(self):
        tables = {9: SECOND, -3: FIRST, FAR: THIRD, 4: FIRST}
        before = list(tables.items())
        for when in (-FAR, -4, -3, 0, 4, 9, 10, FAR, FAR + 1):
            holding(tables, when)
            self.assertEqual(list(tables.items()), before)
        empty = {}
        holding(empty, 0)
        self.assertEqual(empty, {})


if __name__ == "__main__":
    unittest.main()
