"""Promises [5], [10] and [11]: hours that are told, told again and refused, and the pay for a week."""

import unittest

from wagebook.day import answers, rights

STEPS = ((30, 10), (40, 15), (None, 0))
FLAT = ((None, 10),)


class ToldTest(unittest.TestCase):
    def test_answered_with_the_pay_for_the_week(self):
        deeds = [("rate", 0, FLAT), ("hours", "ann", 0, 8), ("hours", "ann", 6, 4), ("hours", "ann", 7, 5)]
        self.assertEqual(answers(deeds), ["told", 80, 120, 50])

    def test_all_hours_of_the_week_together_go_through_the_bands(self):
        deeds = [("rate", 0, STEPS)] + [("hours", "ann", day, 8) for day in range(6)]
        self.assertEqual(answers(deeds), ["told", 80, 160, 240, 300 + 2 * 15, 450, 450])

    def test_told_again_more_less_and_nought(self):
        deeds = [("rate", 0, FLAT), ("hours", "ann", 3, 8), ("hours", "ann", 2, 1)]
        deeds += [("hours", "ann", 3, many) for many in (12, 5, 5, 0, 24, 0)]
        self.assertEqual(answers(deeds)[1:], [80, 90, 130, 60, 60, 10, 250, 10])

    def test_nought_and_twenty_four_are_good(self):
        deeds = [("rate", 0, FLAT), ("hours", "ann", 0, 0), ("hours", "ann", 0, 24), ("hours", "ann", 0, 0)]
        self.assertEqual(answers(deeds), ["told", 0, 240, 0])

    def test_a_whole_week_of_twenty_four(self):
        deeds = [("rate", 0, FLAT)] + [("hours", "ann", day, 24) for day in range(7)]
        self.assertEqual(answers(deeds)[-1], 7 * 240)

    def test_no_table_holds(self):
        deeds = [
            ("hours", "ann", 0, 8),
            ("rate", 1, FLAT),
            ("hours", "ann", 1, 8),
            ("pay", "ann", 0),
            ("hours", "ann", 7, 8),
        ]
        self.assertEqual(answers(deeds), [0, "told", 0, 0, 80])

    def test_the_table_told_last_counts_for_hours_told_ahead(self):
        deeds = [("hours", "ann", 0, 8), ("rate", 0, FLAT), ("hours", "ann", 1, 1), ("rate", 0, STEPS)]
        self.assertEqual(answers(deeds + [("pay", "ann", 0)]), [0, "told", 90, "told", 90])
        deeds += [("rate", -3, ((None, 7),)), ("pay", "ann", 0), ("hours", "ann", -1, 2)]
        self.assertEqual(answers(deeds)[-2:], [90, 14])

    def test_each_person_apart(self):
        deeds = [
            ("rate", 0, FLAT),
            ("hours", "ann", 0, 8),
            ("hours", "bob", 0, 3),
            ("hours", "", 0, 1),
            ("hours", "Ann", 0, 2),
            ("pay", "ann", 0),
            ("pay", "bob", 0),
            ("pay", "", 0),
            ("pay", "Ann", 0),
            ("pay", "ann ", 0),
        ]
        self.assertEqual(answers(deeds), ["told", 80, 30, 10, 20, 80, 30, 10, 20, 0])


class RefusedTest(unittest.TestCase):
    WRONG = (-1, 25, 10 ** 12, -10 ** 12, 10 ** 100, -10 ** 100)
    ASKS = [
        ("pay", "ann", 0),
        ("net", "ann", 0),
        ("right", "ann", 9),
        ("owing", "ann", 9),
        ("paid", "ann"),
        ("payday", "ann", 9),
    ]

    def test_refused_and_nothing_changed(self):
        told = [("rate", 0, FLAT), ("hours", "ann", 0, 8), ("hours", "ann", 8, 2), ("payday", "ann", 0)]
        as_it_was = answers(told + self.ASKS)
        for many in self.WRONG:
            for day in (0, 1, 8, 50):
                with self.subTest(many=many, day=day):
                    given = answers(told + [("hours", "ann", day, many)] + self.ASKS)
                    self.assertEqual(given[len(told)], "no hours")
                    self.assertEqual(given[:len(told)] + given[len(told) + 1:], as_it_was)

    def test_a_person_of_refused_hours_alone_is_not_there(self):
        for many in self.WRONG:
            self.assertEqual(rights([("rate", 0, FLAT), ("hours", "ann", 0, many)], 5), [])

    def test_told_rightly_behind_a_refusal(self):
        deeds = [("rate", 0, FLAT), ("hours", "ann", 0, 25), ("hours", "ann", 0, 24), ("hours", "ann", 0, -1)]
        self.assertEqual(answers(deeds + [("pay", "ann", 0)]), ["told", "no hours", 240, "no hours", 240])


if __name__ == "__main__":
    unittest.main()
