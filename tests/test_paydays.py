"""Promises [8], [9], [10] and [11]: what is paid, what is carried, and the lines that tell why."""

import unittest

from wagebook.day import answers, rights

FLAT = ((None, 10),)
HALF = (((None, 50),), 0, 1)
RATE = ("rate", -100, FLAT)


def last_of(deeds, asks):
    return answers(deeds + asks)[len(deeds):]


class PaidAndCarriedTest(unittest.TestCase):
    def test_the_kinds_of_the_answer(self):
        given = answers([RATE, ("hours", "ann", 0, 8), ("payday", "ann", 0)])[-1]
        self.assertEqual(given, (80, 0, [(0, 80)]))
        self.assertIs(type(given), tuple)
        self.assertIs(type(given[2]), list)
        self.assertIs(type(given[2][0]), tuple)

    def test_more_to_pay(self):
        deeds = [
            RATE,
            ("hours", "ann", 0, 8),
            ("payday", "ann", 0),
            ("hours", "ann", 7, 5),
            ("hours", "ann", 30, 1),
            ("payday", "ann", 1),
            ("payday", "ann", 4),
            ("paid", "ann"),
        ]
        self.assertEqual(answers(deeds)[2:], [(80, 0, [(0, 80)]), 50, 10, (50, 0, [(0, 50)]), (10, 0, [(1, 10)]), 140])

    def test_nothing_left_to_pay(self):
        deeds = [RATE, ("hours", "ann", 0, 8), ("payday", "ann", 0), ("payday", "ann", 0), ("payday", "ann", 50)]
        self.assertEqual(answers(deeds + [("paid", "ann")])[3:], [(0, 0, []), (0, 0, []), 80])

    def test_less_than_was_paid_is_carried_and_never_taken_back(self):
        deeds = [RATE, ("hours", "ann", 0, 8), ("payday", "ann", 0), ("hours", "ann", 0, 3)]
        asks = [("payday", "ann", 0), ("paid", "ann"), ("owing", "ann", 0)]
        self.assertEqual(last_of(deeds, asks), [(0, -50, [(0, -50)]), 80, -50])

    def test_carried_over_several_paydays(self):
        deeds = [
            RATE,
            ("hours", "ann", 0, 10),
            ("payday", "ann", 0),
            ("hours", "ann", 0, 0),
            ("payday", "ann", 0),
            ("payday", "ann", 1),
            ("hours", "ann", 7, 4),
            ("payday", "ann", 1),
            ("hours", "ann", 28, 6),
            ("payday", "ann", 4),
            ("hours", "ann", 35, 2),
            ("payday", "ann", 5),
            ("paid", "ann"),
        ]
        given = [answer for deed, answer in zip(deeds, answers(deeds)) if deed[0] in ("payday", "paid")]
        self.assertEqual(
            given,
            [
                (100, 0, [(0, 100)]),
                (0, -100, [(0, -100)]),
                (0, -100, []),
                (0, -60, [(0, 40)]),
                (0, 0, [(1, 60)]),
                (20, 0, [(1, 20)]),
                120,
            ],
        )

    def test_a_payday_pays_what_is_left_above_what_was_carried(self):
        deeds = [RATE, ("hours", "ann", 0, 10), ("payday", "ann", 0), ("hours", "ann", 0, 4), ("payday", "ann", 0)]
        deeds += [("hours", "ann", 7, 9)]
        self.assertEqual(last_of(deeds, [("payday", "ann", 1), ("paid", "ann")]), [(30, 0, [(0, 90)]), 130])
        deeds = deeds[:-1] + [("hours", "ann", 7, 6)]
        self.assertEqual(last_of(deeds, [("payday", "ann", 1), ("paid", "ann")]), [(0, 0, [(0, 60)]), 100])

    def test_dues_are_kept_back(self):
        deeds = [RATE, ("dues", 0, (((100, 10), (None, 30)), 9, 50)), ("hours", "ann", 0, 22), ("payday", "ann", 0)]
        self.assertEqual(answers(deeds)[-1], (179, 0, [(0, 179)]))

    def test_the_right_up_to_the_week_alone_is_looked_at(self):
        deeds = [RATE, ("hours", "ann", 0, 1), ("hours", "ann", 7, 2), ("hours", "ann", 14, 4), ("hours", "ann", 70, 8)]
        asks = [("payday", "ann", -1), ("payday", "ann", 1), ("payday", "ann", 9), ("payday", "ann", 10)]
        self.assertEqual(last_of(deeds, asks), [(0, 0, []), (30, 0, [(0, 30)]), (40, 0, [(0, 40)]), (80, 0, [(2, 80)])])

    def test_several_persons_apart(self):
        deeds = [
            RATE,
            ("hours", "ann", 0, 1),
            ("hours", "bob", 0, 2),
            ("hours", "", 0, 4),
            ("payday", "ann", 5),
            ("payday", "bob", 3),
            ("hours", "ann", 0, 0),
            ("payday", "ann", 5),
            ("payday", "bob", 3),
            ("payday", "", -1),
            ("payday", "", 0),
            ("payday", "cy", 0),
            ("paid", "ann"),
            ("paid", "bob"),
            ("paid", ""),
            ("paid", "cy"),
        ]
        self.assertEqual(
            answers(deeds)[4:],
            [
                (10, 0, [(0, 10)]),
                (20, 0, [(0, 20)]),
                0,
                (0, -10, [(0, -10)]),
                (0, 0, []),
                (0, 0, []),
                (40, 0, [(0, 40)]),
                (0, 0, []),
                10,
                20,
                40,
                0,
            ],
        )

    def test_great_numbers(self):
        each = 10 ** 99 + 7
        for far in (10 ** 99, -10 ** 99):
            deeds = [("rate", 4 * far, ((None, each),)), ("hours", "ann", 28 * far, 3), ("payday", "ann", 4 * far)]
            deeds += [("hours", "ann", 28 * far, 2), ("payday", "ann", 4 * far + 10 ** 90)]
            given = answers(deeds)
            self.assertEqual(given[2], (3 * each, 0, [(far, 3 * each)]))
            self.assertEqual(given[4], (0, -each, [(far, -each)]))


class LinesTest(unittest.TestCase):
    MONTHS = (-3, -1, 0, 2, 10 ** 40)
    TOLD = [RATE] + [("hours", "ann", 28 * month, 10) for month in (2, -1, 10 ** 40, 0, -3)]
    END = 10 ** 41

    def test_the_months_rise_whatever_the_order_of_telling(self):
        self.assertEqual(
            last_of(self.TOLD, [("payday", "ann", self.END)]), [(500, 0, [(month, 100) for month in self.MONTHS])]
        )

    def test_hours_told_again_for_months_long_past(self):
        deeds = self.TOLD + [("payday", "ann", self.END)]
        deeds += [("hours", "ann", 0, 12), ("hours", "ann", -84, 3), ("hours", "ann", 29, 1)]
        self.assertEqual(last_of(deeds, [("payday", "ann", self.END)]), [(0, -40, [(-3, -70), (0, 20), (1, 10)])])

    def test_a_pay_table_told_again(self):
        deeds = self.TOLD + [("payday", "ann", self.END), ("rate", -4, ((None, 11),))]
        lines = [(month, 10) for month in self.MONTHS[1:]]
        self.assertEqual(last_of(deeds, [("payday", "ann", self.END)]), [(40, 0, lines)])
        deeds += [("payday", "ann", self.END), ("rate", -100, ((None, 9),)), ("rate", 1, ((None, 1),))]
        lines = [(-3, -10), (2, -100), (10 ** 40, -100)]
        self.assertEqual(last_of(deeds, [("payday", "ann", self.END)]), [(0, -210, lines)])

    def test_a_due_table_told_again(self):
        deeds = self.TOLD + [("payday", "ann", self.END), ("dues", 0, HALF), ("payday", "ann", self.END)]
        deeds += [("dues", 2, (((None, 0),), 0, 1)), ("payday", "ann", self.END)]
        deeds += [("dues", 0, (((None, 100),), 0, 1)), ("dues", -1, HALF), ("payday", "ann", self.END)]
        self.assertEqual(
            [answer for answer in answers(deeds) if isinstance(answer, tuple)][1:],
            [
                (0, -150, [(0, -50), (2, -50), (10 ** 40, -50)]),
                (0, -50, [(2, 50), (10 ** 40, 50)]),
                (0, -150, [(-1, -50), (0, -50)]),
            ],
        )

    def test_a_month_that_went_back_to_its_old_net_has_no_line(self):
        deeds = self.TOLD + [("payday", "ann", self.END), ("hours", "ann", 0, 24), ("hours", "ann", 56, 1)]
        deeds += [("dues", 2, HALF), ("hours", "ann", 0, 10), ("hours", "ann", 56, 20)]
        self.assertEqual(last_of(deeds, [("payday", "ann", self.END)]), [(0, -50, [(10 ** 40, -50)])])

    def test_hours_moved_within_a_month_give_no_line(self):
        deeds = self.TOLD + [("payday", "ann", self.END), ("hours", "ann", 0, 0), ("hours", "ann", 27, 10)]
        self.assertEqual(last_of(deeds, [("payday", "ann", self.END)]), [(0, 0, [])])

    def test_hours_moved_to_another_month_give_two_lines_and_no_pay(self):
        deeds = self.TOLD + [("payday", "ann", self.END), ("hours", "ann", 0, 0), ("hours", "ann", 28, 10)]
        self.assertEqual(last_of(deeds, [("payday", "ann", self.END)]), [(0, 0, [(0, -100), (1, 100)])])

    def test_the_old_net_is_that_of_the_last_payday_and_not_of_the_telling(self):
        deeds = [RATE, ("hours", "ann", 0, 1), ("payday", "ann", 0), ("hours", "ann", 0, 2), ("net", "ann", 0)]
        deeds += [("right", "ann", 0), ("payday", "ann", 0), ("hours", "ann", 0, 4), ("payday", "ann", 0)]
        self.assertEqual(last_of(deeds, [("payday", "ann", 0)]), [(0, 0, [])])
        self.assertEqual(answers(deeds)[6], (10, 0, [(0, 10)]))
        self.assertEqual(answers(deeds)[8], (20, 0, [(0, 20)]))

    def test_the_old_net_is_up_to_the_week_of_the_last_payday(self):
        # The hours of week 2 were told ahead of the first payday, but it looked no further than week 1.
        deeds = [RATE, ("hours", "ann", 7, 1), ("hours", "ann", 14, 2), ("payday", "ann", 1), ("payday", "ann", 2)]
        self.assertEqual(answers(deeds)[3:], [(10, 0, [(0, 10)]), (20, 0, [(0, 20)])])

    def test_what_was_carried_ahead_and_the_lines_are_what_is_paid_and_carried(self):
        deeds = list(self.TOLD)
        for step in range(60):
            deeds.append(("hours", "ann", 20 * (step % 7) - 50, (step * 17) % 25))
            if step % 7 == 3:
                deeds.append(("rate", step % 5 - 9, ((step, 20), (None, step % 40))))
            if step % 9 == 4:
                deeds.append(("dues", step % 5 - 3, (((50, step), (None, 100 - step)), step % 7, step + 1)))
            deeds.append(("payday", "ann", step // 6))
        carried = 0
        seen = 0
        for answer in answers(deeds):
            if isinstance(answer, tuple):
                paid, carried_then, lines = answer
                self.assertEqual(carried + sum(change for month, change in lines), paid + carried_then)
                self.assertGreaterEqual(paid, 0)
                self.assertLessEqual(carried_then, 0)
                self.assertTrue(paid == 0 or carried_then == 0)
                months = [month for month, change in lines]
                self.assertEqual(months, sorted(set(months)))
                self.assertNotIn(0, [change for month, change in lines])
                carried = carried_then
                seen += carried < 0
        self.assertGreater(seen, 5)


class TooEarlyTest(unittest.TestCase):
    def test_a_payday_for_the_same_week_again(self):
        for week in (0, 3, -5, 10 ** 50, -10 ** 50):
            deeds = [("rate", week, FLAT), ("hours", "ann", 7 * week, 8), ("payday", "ann", week)]
            deeds += [("hours", "ann", 7 * week + 1, 1), ("payday", "ann", week)]
            self.assertEqual(answers(deeds)[-1][:2], (10, 0))

    def test_refused_and_nothing_changed(self):
        asks = [("paid", "ann"), ("owing", "ann", 9), ("payday", "ann", 5), ("payday", "ann", 9), ("paid", "ann")]
        told = [RATE, ("hours", "ann", 0, 8), ("payday", "ann", 5), ("hours", "ann", 0, 9), ("hours", "ann", 42, 2)]
        for week in (4, 0, -1, -10 ** 50):
            given = answers(told + [("payday", "ann", week)] + asks)
            self.assertEqual(given[len(told)], "too early")
            self.assertEqual(given[len(told) + 1:], last_of(told, asks))

    def test_weeks_ahead_of_nought(self):
        deeds = [RATE, ("payday", "ann", -5), ("payday", "ann", -6), ("payday", "ann", -5), ("payday", "ann", 0)]
        deeds += [("payday", "ann", -1), ("payday", "ann", 0)]
        self.assertEqual(
            answers(deeds)[1:], [(0, 0, []), "too early", (0, 0, []), (0, 0, []), "too early", (0, 0, [])]
        )

    def test_a_payday_at_which_nothing_was_paid_counts(self):
        deeds = [("payday", "ann", 5), ("payday", "ann", 4)]
        self.assertEqual(answers(deeds), [(0, 0, []), "too early"])

    def test_it_is_the_last_payday_of_the_person_alone(self):
        deeds = [RATE, ("payday", "ann", 5), ("payday", "bob", 4), ("payday", "bob", 3), ("payday", "cy", -9)]
        self.assertEqual(answers(deeds)[1:], [(0, 0, []), (0, 0, []), "too early", (0, 0, [])])

    def test_a_refused_payday_does_not_move_the_last_week(self):
        deeds = [("payday", "ann", 5), ("payday", "ann", 1), ("payday", "ann", 3), ("payday", "ann", 5)]
        self.assertEqual(answers(deeds), [(0, 0, []), "too early", "too early", (0, 0, [])])

    def test_rights_behind_a_refused_payday(self):
        told = [RATE, ("hours", "ann", 0, 8), ("payday", "ann", 5), ("hours", "ann", 1, 8)]
        self.assertEqual(rights(told + [("payday", "ann", 4)], 5), [("ann", 160, 80)])


if __name__ == "__main__":
    unittest.main()
