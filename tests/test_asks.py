"""Promises [7], [10] and [11]: pay, net, right, owing and paid."""

import unittest

from wagebook.bands import due_of
from wagebook.day import answers

FLAT = ((None, 10),)
RISING = (((100, 10), (None, 30)), 9, 50)
FAR = 10 ** 40


def last_of(deeds, asks):
    return answers(deeds + asks)[len(deeds):]


class NothingTest(unittest.TestCase):
    def asks_at(self, week):
        return [(name, "ann", week) for name in ("pay", "net", "right", "owing")] + [("paid", "ann")]

    def test_a_person_without_hours(self):
        told = [("rate", -9, FLAT), ("dues", -9, RISING), ("hours", "bob", 0, 8)]
        for week in (0, -1, 3, 10 ** 12, FAR, -FAR, 10 ** 99, -10 ** 99):
            self.assertEqual(last_of(told, self.asks_at(week)), [0] * 5)
            self.assertEqual(answers(self.asks_at(week)), [0] * 5)
            self.assertEqual(last_of(told, [("payday", "ann", week)]), [(0, 0, [])])

    def test_no_pay_table_holds(self):
        told = [("rate", 1, FLAT), ("dues", -9, RISING), ("hours", "ann", 0, 8), ("hours", "ann", -70, 8)]
        for week in (0, -1, 3, FAR, -FAR):
            self.assertEqual(last_of(told, self.asks_at(week)), [0] * 5)
            self.assertEqual(last_of(told, [("payday", "ann", week)]), [(0, 0, [])])

    def test_a_top_gives_nothing_where_there_is_no_pay(self):
        told = [("rate", 0, FLAT), ("dues", 0, (((None, 0),), 1000, 1)), ("hours", "ann", 0, 0)]
        self.assertEqual(last_of(told, self.asks_at(0)), [0] * 5)


class NetAndRightTest(unittest.TestCase):
    TOLD = [("rate", 0, FLAT), ("dues", 0, RISING)] + [("hours", "ann", 7 * week, week + 5) for week in range(9)]

    def net_upto(self, week):
        first = week - week % 4
        pay = sum(10 * (at + 5) for at in range(first, min(week, 8) + 1))
        return pay - due_of(pay, RISING)

    def test_net_looks_no_further_than_the_week(self):
        nets = last_of(self.TOLD, [("net", "ann", week) for week in range(9)])
        self.assertEqual(nets, [self.net_upto(week) for week in range(9)])
        self.assertEqual(nets[:4], [50, 110 - 6, 180 - 28, 260 - 54])

    def test_right_looks_no_further_than_the_week(self):
        sums = last_of(self.TOLD, [("right", "ann", week) for week in range(12)])
        full = [self.net_upto(3), self.net_upto(7)]
        expected = [self.net_upto(week) for week in range(4)]
        expected += [full[0] + self.net_upto(week) for week in range(4, 8)]
        expected += [full[0] + full[1] + self.net_upto(week) for week in range(8, 12)]
        self.assertEqual(sums, expected)

    def test_net_and_right_behind_the_last_hours(self):
        asks = [("net", "ann", 8), ("net", "ann", 11), ("net", "ann", 12), ("right", "ann", 11), ("right", "ann", FAR)]
        given = last_of(self.TOLD, asks)
        self.assertEqual(given[:3], [self.net_upto(8), self.net_upto(8), 0])
        self.assertEqual(given[3], given[4])

    def test_net_and_right_ahead_of_the_first_hours(self):
        asks = [(name, "ann", week) for name in ("net", "right") for week in (-1, -4, -FAR)]
        self.assertEqual(last_of(self.TOLD, asks), [0] * 6)

    def test_the_due_is_of_the_pay_of_the_month_together(self):
        # 200 by RISING: 40 less 5; twice 100 alone would be 3 and 3.
        told = [("rate", 0, FLAT), ("dues", 0, RISING), ("hours", "ann", 0, 10), ("hours", "ann", 27, 10)]
        self.assertEqual(last_of(told, [("net", "ann", 3), ("net", "ann", 2)]), [165, 97])

    def test_each_month_by_the_due_table_that_holds_for_it(self):
        told = [("rate", -8, FLAT)] + [("hours", "ann", 28 * month, 20) for month in range(-2, 3)]
        told += [("dues", 1, (((None, 10),), 0, 1)), ("dues", -1, (((None, 50),), 0, 1))]
        asks = [("net", "ann", 4 * month) for month in range(-2, 3)] + [("right", "ann", 8)]
        self.assertEqual(last_of(told, asks), [200, 100, 100, 180, 180, 760])

    def test_weeks_of_a_month_by_the_pay_table_that_holds_for_each(self):
        told = [("rate", 0, FLAT), ("rate", 2, ((None, 100),)), ("dues", 0, (((None, 50),), 0, 1))]
        told += [("hours", "ann", 7 * week, 1) for week in range(4)]
        self.assertEqual(last_of(told, [("net", "ann", week) for week in range(4)]), [5, 10, 60, 110])

    def test_numbers_of_forty_figures_and_more(self):
        for far in (FAR, -FAR, 10 ** 99 + 1, -10 ** 99 - 1):
            told = [("rate", 4 * far, ((None, far * far),)), ("dues", far, (((None, 50),), 0, 1))]
            told += [("hours", "ann", 28 * far, 2), ("hours", "ann", 28 * far - 1, 2), ("hours", "ann", 28 * far + 28, 4)]
            asks = [("pay", "ann", 4 * far), ("pay", "ann", 4 * far - 1), ("net", "ann", 4 * far)]
            asks += [("right", "ann", 4 * far + at) for at in (-1, 0, 3, 4, abs(far))]
            square = far * far
            self.assertEqual(
                last_of(told, asks), [2 * square, 0, square, 0, square, square, 3 * square, 3 * square]
            )


class OwingAndPaidTest(unittest.TestCase):
    TOLD = [("rate", 0, FLAT), ("hours", "ann", 0, 10), ("hours", "ann", 7, 5), ("hours", "ann", 35, 2)]

    def test_between_and_behind_paydays(self):
        asks = [("owing", "ann", -1), ("owing", "ann", 0), ("owing", "ann", 1), ("owing", "ann", 9), ("paid", "ann")]
        self.assertEqual(last_of(self.TOLD, asks), [0, 100, 150, 170, 0])
        once = self.TOLD + [("payday", "ann", 0)]
        self.assertEqual(last_of(once, asks), [-100, 0, 50, 70, 100])
        twice = once + [("payday", "ann", 3)]
        self.assertEqual(last_of(twice, asks), [-150, -50, 0, 20, 150])
        thrice = twice + [("payday", "ann", 9)]
        self.assertEqual(last_of(thrice, asks), [-170, -70, -20, 0, 170])

    def test_pay_net_and_right_are_what_they_are_whatever_was_paid(self):
        asks = [(name, "ann", week) for name in ("pay", "net", "right") for week in (0, 1, 5)]
        self.assertEqual(last_of(self.TOLD, asks), [100, 50, 20, 100, 150, 20, 100, 150, 170])
        self.assertEqual(last_of(self.TOLD + [("payday", "ann", 1)], asks), last_of(self.TOLD, asks))

    def test_too_much_was_paid(self):
        told = self.TOLD + [("payday", "ann", 9), ("hours", "ann", 0, 1)]
        self.assertEqual(last_of(told, [("owing", "ann", 9), ("paid", "ann"), ("right", "ann", 9)]), [-90, 170, 80])

    def test_asking_changes_nothing(self):
        asks = [(name, who, week) for name in ("pay", "net", "right", "owing") for who in ("ann", "bob") for week in (0, 5)]
        asks += [("paid", "ann"), ("paid", "bob")]
        behind = [("payday", "ann", 0), ("payday", "bob", 0), ("payday", "ann", 9)]
        self.assertEqual(last_of(self.TOLD + asks + asks, behind), last_of(self.TOLD, behind))


if __name__ == "__main__":
    unittest.main()
