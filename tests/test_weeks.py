"""Promise [2]: which days make a week, and which weeks make a month."""

import unittest

from wagebook.day import answers
from wagebook.weeks import month_of, week_of

FAR = 10 ** 99 + 5


class NumbersTest(unittest.TestCase):
    def test_weeks_of_the_document(self):
        self.assertEqual([week_of(day) for day in range(0, 7)], [0] * 7)
        self.assertEqual([week_of(day) for day in range(7, 14)], [1] * 7)
        self.assertEqual([week_of(day) for day in range(-7, 0)], [-1] * 7)
        self.assertEqual([week_of(day) for day in range(-14, -7)], [-2] * 7)

    def test_months_of_the_document(self):
        self.assertEqual([month_of(week) for week in range(0, 4)], [0] * 4)
        self.assertEqual([month_of(week) for week in range(4, 8)], [1] * 4)
        self.assertEqual([month_of(week) for week in range(-4, 0)], [-1] * 4)
        self.assertEqual([month_of(week) for week in range(-8, -4)], [-2] * 4)

    def test_far_off(self):
        for place in (FAR, -FAR, 3 * FAR + 1, -3 * FAR - 1):
            self.assertEqual([week_of(7 * place + n) for n in range(-1, 8)], [place - 1] + [place] * 7 + [place + 1])
            self.assertEqual([month_of(4 * place + n) for n in range(-1, 5)], [place - 1] + [place] * 4 + [place + 1])


class DeedsTest(unittest.TestCase):
    """Each day has hours of its own kind, so the pays tell which days were taken together."""

    def pays_by_week(self, first_day, weeks):
        deeds = [("rate", week_of(first_day) - 5, ((None, 1),))]
        deeds += [("hours", "ann", first_day + n, n + 1) for n in range(21)]
        return answers(deeds + [("pay", "ann", week) for week in weeks])[-len(weeks):]

    def test_the_last_day_of_a_week_and_the_first_of_the_next(self):
        for place in (0, 1, -1, -2, 10 ** 40, -10 ** 40):
            sums = self.pays_by_week(7 * place, range(place - 1, place + 4))
            self.assertEqual(sums, [0, sum(range(1, 8)), sum(range(8, 15)), sum(range(15, 22)), 0])
            sums = self.pays_by_week(7 * place - 1, range(place - 2, place + 4))
            self.assertEqual(sums, [0, 1, sum(range(2, 9)), sum(range(9, 16)), sum(range(16, 22)), 0])

    def test_the_last_week_of_a_month_and_the_first_of_the_next(self):
        for place in (0, 1, -1, -2, 10 ** 40, -10 ** 40):
            first = 4 * place - 1
            deeds = [("rate", first, ((None, 1),))]
            deeds += [("hours", "ann", 7 * (first + n), n + 1) for n in range(6)]
            deeds += [("net", "ann", first + n) for n in range(6)]
            self.assertEqual(answers(deeds)[-6:], [1, 2, 2 + 3, 2 + 3 + 4, 2 + 3 + 4 + 5, 6])
            lines = answers(deeds + [("payday", "ann", first + 5)])[-1][2]
            self.assertEqual(lines, [(place - 1, 1), (place, 14), (place + 1, 6)])

    def test_tables_begin_with_the_first_day_of_their_week_and_month(self):
        for place in (0, -1, 3, -10 ** 40):
            week = 4 * place
            deeds = [
                ("rate", week - 9, ((None, 100),)),
                ("rate", week, ((None, 1000),)),
                ("dues", place, (((None, 50),), 0, 1)),
                ("hours", "ann", 7 * week - 1, 1),
                ("hours", "ann", 7 * week, 1),
                ("net", "ann", week - 1),
                ("net", "ann", week),
            ]
            self.assertEqual(answers(deeds)[3:], [100, 1000, 100, 500])


if __name__ == "__main__":
    unittest.main()
