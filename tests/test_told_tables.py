"""Promises [3], [5], [6], [10] and [11]: pay tables and due tables that are told, told again and refused."""

import unittest

from wagebook.day import answers

FLAT = ((None, 10),)
HALF = (((None, 50),), 0, 1)
FAR = 10 ** 60

BAD_BANDS = (
    (),
    ((30, 10),),
    ((30, 10), (40, 15)),
    ((None, 10), (None, 15)),
    ((None, 10), (40, 15)),
    ((None, 10), (40, 15), (None, 0)),
    ((30, 10), (None, 15), (None, 0)),
    ((30, 10), (None, 15), (40, 0), (None, 0)),
    ((30, 10), (30, 15), (None, 0)),
    ((40, 10), (30, 15), (None, 0)),
    ((10, 1), (20, 1), (20, 1), (None, 0)),
    ((10, 1), (30, 1), (20, 1), (None, 0)),
    ((20, 1), (10, 1), (30, 1), (None, 0)),
    ((0, 10), (None, 15)),
    ((0, 10), (5, 10), (None, 15)),
    ((-1, 10), (None, 15)),
    ((-5, 10), (5, 10), (None, 15)),
    ((5, 10), (-5, 10), (None, 15)),
    ((5, 10), (0, 10), (None, 15)),
    ((-FAR, 10), (None, 15)),
    ((FAR, 10), (FAR, 10), (None, 15)),
    ((FAR, 10), (FAR - 1, 10), (None, 15)),
    ((None, -1),),
    ((30, -1), (40, 15), (None, 0)),
    ((30, 10), (40, -1), (None, 0)),
    ((30, 10), (40, 15), (None, -1)),
    ((30, 10), (40, 15), (None, -FAR)),
)
GOOD_BANDS = (
    ((None, 0),),
    ((None, 100),),
    ((1, 0), (None, 0)),
    ((1, 1), (2, 1), (3, 1), (None, 1)),
    ((30, 10), (40, 15), (None, 0)),
    ((FAR, 1), (FAR + 1, 2), (None, 3)),
    tuple([(n, n) for n in range(1, 41)] + [(None, 5)]),
)
HIGH_BANDS = (
    ((None, 101),),
    ((30, 101), (40, 15), (None, 0)),
    ((30, 10), (40, 101), (None, 0)),
    ((30, 10), (40, 15), (None, 101)),
    ((30, 10), (40, 15), (None, FAR)),
)
BAD_REST = ((-1, 50), (-FAR, 50), (9, 0), (9, -1), (9, -50), (9, -FAR), (0, 0), (-1, 0))
GOOD_REST = ((0, 1), (0, 50), (9, 1), (9, 50), (FAR, FAR))


class ToldTest(unittest.TestCase):
    def test_good_pay_tables(self):
        for bands in GOOD_BANDS + HIGH_BANDS:
            self.assertEqual(answers([("rate", 0, bands)]), ["told"], bands)

    def test_good_due_tables(self):
        for bands in GOOD_BANDS:
            for top, per in GOOD_REST:
                self.assertEqual(answers([("dues", 0, (bands, top, per))]), ["told"], (bands, top, per))

    def test_a_pay_table_with_an_each_above_a_hundred_is_used(self):
        deeds = [("rate", 0, ((2, 101), (None, FAR))), ("hours", "ann", 0, 3)]
        self.assertEqual(answers(deeds), ["told", 202 + FAR])

    def test_a_pay_table_told_again_for_the_same_week(self):
        deeds = [("hours", "ann", 7, 3), ("hours", "ann", 14, 3)]
        asks = [("pay", "ann", 0), ("pay", "ann", 1), ("pay", "ann", 2)]
        deeds += [("rate", 1, FLAT)] + asks + [("rate", 1, ((None, 20),))] + asks + [("rate", 1, FLAT)] + asks
        self.assertEqual(
            answers(deeds), [0, 0, "told", 0, 30, 30, "told", 0, 60, 60, "told", 0, 30, 30]
        )

    def test_a_due_table_told_again_for_the_same_month(self):
        deeds = [("rate", 0, FLAT), ("hours", "ann", 28, 10), ("hours", "ann", 56, 20)]
        asks = [("net", "ann", 4), ("net", "ann", 8)]
        deeds += asks + [("dues", 1, HALF)] + asks + [("dues", 1, (((None, 10),), 0, 1))] + asks
        self.assertEqual(answers(deeds)[3:], [100, 200, "told", 50, 100, "told", 90, 180])

    def test_a_table_says_nothing_of_what_lies_ahead_of_it(self):
        deeds = [("hours", "ann", day, 10) for day in (-28, -7, 0, 21, 28)]
        deeds += [("rate", -1, FLAT), ("dues", 0, HALF)]
        asks = [("pay", "ann", week) for week in (-4, -1, 0, 3, 4)]
        asks += [("net", "ann", week) for week in (-4, -1, 0, 3, 4)]
        self.assertEqual(answers(deeds + asks)[7:], [0, 100, 100, 100, 100, 0, 100, 50, 100, 50])

    def test_told_late_for_a_week_or_month_long_past(self):
        told = [("rate", 0, FLAT), ("hours", "ann", 0, 10), ("hours", "ann", 4000, 10)]
        asks = [("right", "ann", 1), ("right", "ann", 1000)]
        deeds = told + asks + [("rate", -500, ((None, 3),))] + asks + [("rate", 0, ((None, 20),))] + asks
        self.assertEqual(answers(deeds)[3:], [100, 200, "told", 100, 200, "told", 200, 400])
        deeds = told + [("rate", 1, ((None, 30),))] + asks + [("dues", -70, HALF)] + asks
        deeds += [("dues", 1, (((None, 10),), 0, 1))] + asks
        self.assertEqual(answers(deeds)[3:], ["told", 100, 400, "told", 50, 200, "told", 50, 320])

    def test_the_next_table_ends_the_one_ahead(self):
        deeds = [("hours", "ann", 7 * week, 1) for week in range(-2, 6)]
        deeds += [("rate", 4, ((None, 5),)), ("rate", -1, ((None, 2),)), ("rate", 2, ((None, 3),))]
        asks = [("pay", "ann", week) for week in range(-2, 6)]
        self.assertEqual(answers(deeds + asks)[11:], [0, 2, 2, 2, 3, 3, 5, 5])

    def test_weeks_and_months_are_told_apart(self):
        # A due table from month 5 on says nothing of week 5, which lies in month 1.
        deeds = [("rate", 0, FLAT), ("dues", 5, HALF), ("hours", "ann", 35, 10), ("hours", "ann", 140, 10)]
        self.assertEqual(answers(deeds + [("net", "ann", 5), ("net", "ann", 20)])[4:], [100, 50])


class RefusedTest(unittest.TestCase):
    TOLD = [
        ("rate", 0, FLAT),
        ("dues", 0, HALF),
        ("hours", "ann", 0, 10),
        ("hours", "ann", 28, 10),
        ("payday", "ann", 0),
    ]
    ASKS = [
        ("pay", "ann", 0),
        ("pay", "ann", 4),
        ("net", "ann", 0),
        ("right", "ann", 9),
        ("owing", "ann", 9),
        ("paid", "ann"),
        ("payday", "ann", 9),
    ]

    def check_refused(self, deed):
        given = answers(self.TOLD + [deed] + self.ASKS)
        self.assertEqual(given[len(self.TOLD)], "no table", deed)
        rest = given[:len(self.TOLD)] + given[len(self.TOLD) + 1:]
        self.assertEqual(rest, answers(self.TOLD + self.ASKS), deed)

    def test_bands_that_are_not_good(self):
        for bands in BAD_BANDS:
            for week in (0, 1, 4, -5):
                self.check_refused(("rate", week, bands))

    def test_due_tables_with_bands_that_are_not_good(self):
        for bands in BAD_BANDS:
            for month in (0, 1, -5):
                self.check_refused(("dues", month, (bands, 9, 50)))

    def test_an_each_above_a_hundred_is_refused_for_dues(self):
        for bands in HIGH_BANDS:
            for month in (0, 1, -5):
                self.check_refused(("dues", month, (bands, 9, 50)))

    def test_a_top_or_per_that_is_not_good(self):
        for top, per in BAD_REST:
            for bands in GOOD_BANDS:
                self.check_refused(("dues", 0, (bands, top, per)))
                self.check_refused(("dues", 1, (bands, top, per)))

    def test_refused_where_no_table_was_told_yet(self):
        deeds = [("hours", "ann", 0, 10), ("rate", 0, ((None, -1),)), ("pay", "ann", 0), ("rate", 0, FLAT)]
        deeds += [("dues", 0, (((None, 50),), 0, 0)), ("net", "ann", 0)]
        self.assertEqual(answers(deeds), [0, "no table", 0, "told", "no table", 100])


if __name__ == "__main__":
    unittest.main()
