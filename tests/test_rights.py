"""Promises [1], [12] and `rights`: who is there, in which order, and that only what was told last counts."""

import itertools
import unittest

from wagebook.day import answers, rights

FLAT = ((None, 10),)
RISING = (((100, 10), (None, 30)), 9, 50)


class WhoTest(unittest.TestCase):
    def test_nobody(self):
        self.assertEqual(rights([], 0), [])
        self.assertEqual(rights([("rate", 0, FLAT), ("dues", 0, RISING)], 0), [])

    def test_the_kinds_of_the_answer(self):
        given = rights([("rate", 0, FLAT), ("hours", "ann", 0, 8), ("payday", "ann", 0), ("hours", "ann", 1, 1)], 0)
        self.assertEqual(given, [("ann", 90, 80)])
        self.assertIs(type(given), list)
        self.assertIs(type(given[0]), tuple)

    def test_the_order_of_texts(self):
        names = ["bob", "ann", "", "Zoe", "ann2", " ", "\u00e9", "a", "10", "9", "B", "\U0001f600", "\uffff"]
        deeds = [("hours", name, 0, 1) for name in names]
        self.assertEqual([row[0] for row in rights(deeds, 0)], sorted(names))
        self.assertEqual([row[0] for row in rights(deeds[::-1], 0)], sorted(names))
        self.assertEqual(rights(deeds, 0)[0], ("", 0, 0))

    def test_hours_that_all_went_back_to_nought(self):
        deeds = [("rate", 0, FLAT), ("hours", "ann", 0, 8), ("hours", "ann", 9, 1), ("hours", "bob", 0, 2)]
        self.assertEqual(rights(deeds, 0), [("ann", 80, 0), ("bob", 20, 0)])
        deeds += [("hours", "ann", 0, 0)]
        self.assertEqual(rights(deeds, 0), [("ann", 0, 0), ("bob", 20, 0)])
        deeds += [("hours", "ann", 9, 0)]
        self.assertEqual(rights(deeds, 0), [("bob", 20, 0)])
        deeds += [("hours", "ann", 50, 1)]
        self.assertEqual(rights(deeds, 0), [("ann", 0, 0), ("bob", 20, 0)])

    def test_hours_of_nought_alone(self):
        self.assertEqual(rights([("rate", 0, FLAT), ("hours", "ann", 0, 0), ("hours", "ann", 3, 0)], 5), [])

    def test_those_who_had_a_payday(self):
        deeds = [("rate", 0, FLAT), ("hours", "ann", 0, 8), ("payday", "ann", 0), ("hours", "ann", 0, 0)]
        deeds += [("payday", "bob", 3), ("payday", "", -3), ("payday", "cy", 0)]
        self.assertEqual(rights(deeds, 5), [("", 0, 0), ("ann", 0, 80), ("bob", 0, 0), ("cy", 0, 0)])

    def test_those_who_were_only_asked_of(self):
        asks = [(name, "ann", 0) for name in ("pay", "net", "right", "owing")] + [("paid", "ann")]
        self.assertEqual(rights([("rate", 0, FLAT)] + asks, 0), [])

    def test_up_to_a_week_in_the_middle_of_a_month(self):
        deeds = [("rate", 0, FLAT), ("dues", 0, RISING)] + [("hours", "ann", 7 * week, 10) for week in range(6)]
        deeds += [("payday", "ann", 1)]
        # 200 have a due of 40 less 5, 100 of 10 less 7, 400 of 100 less 1, 300 of 70 less 3.
        self.assertEqual(
            [rights(deeds, week)[0] for week in (-1, 0, 1, 2, 3, 4, 5, 10 ** 60)],
            [("ann", right, 165) for right in (0, 97, 165, 233, 301, 398, 466, 466)],
        )

    def test_what_was_paid_is_all_that_was_paid_whatever_the_week(self):
        deeds = [("rate", 0, FLAT), ("hours", "ann", 0, 8), ("hours", "ann", 70, 2), ("payday", "ann", 0)]
        deeds += [("payday", "ann", 10)]
        for week in (-10 ** 45, -1, 0, 9, 10, 10 ** 45):
            right = 0 if week < 0 else 80 if week < 10 else 100
            self.assertEqual(rights(deeds, week), [("ann", right, 100)])


class OnlyTheLastCountsTest(unittest.TestCase):
    RIGHT = [
        ("rate", -2, ((8, 10), (None, 15))),
        ("rate", 3, ((10, 20), (None, 5))),
        ("dues", -1, (((100, 10), (None, 30)), 9, 50)),
        ("dues", 1, (((None, 40),), 5, 30)),
        ("hours", "ann", -1, 9),
        ("hours", "ann", 21, 12),
        ("hours", "bob", 28, 24),
    ]
    WRONG = [
        ("rate", -2, ((None, 1000),)),
        ("rate", 3, ((None, 0),)),
        ("dues", -1, (((None, 100),), 0, 1)),
        ("dues", 1, (((None, 0),), 0, 1)),
        ("hours", "ann", -1, 24),
        ("hours", "ann", 21, 0),
        ("hours", "bob", 28, 1),
    ]
    REFUSED = [
        ("rate", -2, ((None, -1),)),
        ("rate", 3, ()),
        ("dues", -1, (((None, 101),), 0, 1)),
        ("dues", 1, (((None, 0),), 0, 0)),
        ("hours", "ann", -1, 25),
        ("hours", "ann", 21, -1),
        ("hours", "bob", 28, 10 ** 12),
    ]
    # ann: 95 in month -1, due 9 less 8; and 210 in week 3, due 43 less 5. bob: 270, due 108 and no relief.
    EXPECTED = [("ann", 94 + 172, 0), ("bob", 162, 0)]

    def orders(self):
        return list(itertools.permutations(range(7)))[::97]

    def paydays(self, week):
        return [("payday", who, week) for who in ("ann", "bob", "cy")]

    def test_several_orders(self):
        for order in self.orders():
            self.assertEqual(rights([self.RIGHT[at] for at in order], 7), self.EXPECTED)

    def test_told_wrongly_first_and_often(self):
        for order in self.orders():
            deeds = []
            for at in order:
                deeds += [self.WRONG[at], self.WRONG[at], self.RIGHT[at], self.REFUSED[at], self.RIGHT[at]]
            self.assertEqual(rights(deeds, 7), self.EXPECTED)
            deeds = self.WRONG + [self.RIGHT[at] for at in order] + self.REFUSED
            self.assertEqual(rights(deeds, 7), self.EXPECTED)

    def test_paydays_between_leave_the_rights_as_they_are(self):
        for order in self.orders():
            deeds = list(self.WRONG)
            for step, at in enumerate(order):
                deeds += self.paydays(step - 2) + [self.RIGHT[at]]
            given = rights(deeds + self.paydays(7), 7)
            self.assertEqual([row[:2] for row in given], [row[:2] for row in self.EXPECTED] + [("cy", 0)])
            paid = answers(deeds + self.paydays(7) + [("paid", "ann"), ("paid", "bob"), ("paid", "cy")])[-3:]
            self.assertEqual([row[2] for row in given], paid)

    def test_a_payday_makes_up_for_what_was_told_late(self):
        # Hours told one by one never lower the right, so in the end all of it is paid, and no more.
        tables = self.RIGHT[:4]
        for hours in itertools.permutations(self.RIGHT[4:]):
            deeds = list(tables)
            for step, deed in enumerate(hours):
                deeds += self.paydays(step) + [deed]
            expected = [(who, right, right) for who, right, paid in self.EXPECTED] + [("cy", 0, 0)]
            self.assertEqual(rights(deeds + self.paydays(7), 7), expected)

    def test_what_is_owing_is_the_right_less_what_was_paid_at_any_time(self):
        deeds = list(self.WRONG)
        for step, deed in enumerate(self.RIGHT):
            deeds += self.paydays(step - 2) + [deed]
            for week in (-3, -1, 0, 3, 5, 7):
                for who, right, paid in rights(deeds, week):
                    asks = [("right", who, week), ("paid", who), ("owing", who, week)]
                    self.assertEqual(answers(deeds + asks)[-3:], [right, paid, right - paid])


if __name__ == "__main__":
    unittest.main()
