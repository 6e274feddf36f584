"""Promises [3] and [4]: how bands cut an amount, and what it is worth by them."""

import unittest

from wagebook.bands import parts_of, worth

EXAMPLE = ((30, 10), (40, 15), (None, 0))
ALONE = ((None, 7),)
NARROW = ((1, 3), (2, 0), (3, 5), (None, 1))
FALLING = ((5, 20), (9, 4), (None, 0))
THIRTEEN = tuple([(n * n, 3 * n) for n in range(1, 13)] + [(None, 100)])
GREAT = 10 ** 99 + 12345
HUGE = (
    (10 ** 15, 10 ** 55 + 3),
    (10 ** 60, 0),
    (10 ** 98, 7 * 10 ** 52 + 1),
    (None, 10 ** 99 + 9),
)
ALL_BANDS = (EXAMPLE, ALONE, NARROW, FALLING, THIRTEEN, HUGE)


def edges_of(bands):
    """Amounts at each `upto`, one less and one more, and some far off."""
    amounts = {0, 1, 47, 10 ** 15, GREAT, 10 ** 100 - 1, 10 ** 104 + 1}
    for upto, each in bands[:-1]:
        amounts.update((upto - 1, upto, upto + 1))
    return sorted(amounts)


def each_at(unit, bands):
    """The `each` of the band in which the unit of that number, from one on, lies."""
    for upto, each in bands:
        if upto is None or unit <= upto:
            return each
    raise ValueError(unit)


class PartsTest(unittest.TestCase):
    def check_parts(self, amount, bands):
        parts = parts_of(amount, bands)
        self.assertIs(type(parts), list)
        self.assertEqual(len(parts), len(bands))
        self.assertEqual(sum(parts), amount)
        floor = 0
        ahead_full = True
        for part, (upto, each) in zip(parts, bands):
            self.assertIs(type(part), int)
            self.assertGreaterEqual(part, 0)
            if part > 0:
                self.assertTrue(ahead_full, (amount, bands, parts))
            if upto is not None:
                self.assertLessEqual(part, upto - floor)
                ahead_full = ahead_full and part == upto - floor
                floor = upto

    def test_example_of_the_document(self):
        self.assertEqual(parts_of(47, EXAMPLE), [30, 10, 7])

    def test_nought(self):
        self.assertEqual(parts_of(0, EXAMPLE), [0, 0, 0])
        self.assertEqual(parts_of(0, ALONE), [0])
        self.assertEqual(parts_of(0, THIRTEEN), [0] * 13)

    def test_at_each_upto_one_less_and_one_more(self):
        self.assertEqual(parts_of(29, EXAMPLE), [29, 0, 0])
        self.assertEqual(parts_of(30, EXAMPLE), [30, 0, 0])
        self.assertEqual(parts_of(31, EXAMPLE), [30, 1, 0])
        self.assertEqual(parts_of(39, EXAMPLE), [30, 9, 0])
        self.assertEqual(parts_of(40, EXAMPLE), [30, 10, 0])
        self.assertEqual(parts_of(41, EXAMPLE), [30, 10, 1])

    def test_bands_of_one_unit(self):
        self.assertEqual(parts_of(1, NARROW), [1, 0, 0, 0])
        self.assertEqual(parts_of(2, NARROW), [1, 1, 0, 0])
        self.assertEqual(parts_of(3, NARROW), [1, 1, 1, 0])
        self.assertEqual(parts_of(4, NARROW), [1, 1, 1, 1])

    def test_one_pair_alone(self):
        for amount in (1, 47, 10 ** 15, GREAT):
            self.assertEqual(parts_of(amount, ALONE), [amount])

    def test_thirteen_bands(self):
        widths = [1, 3, 5, 7, 9, 11, 13, 15, 17, 19, 21, 23]
        self.assertEqual(parts_of(150, THIRTEEN), widths + [6])
        self.assertEqual(parts_of(27, THIRTEEN), [1, 3, 5, 7, 9, 2] + [0] * 7)

    def test_great_amounts(self):
        self.assertEqual(parts_of(10 ** 15, EXAMPLE), [30, 10, 10 ** 15 - 40])
        self.assertEqual(parts_of(GREAT, EXAMPLE), [30, 10, GREAT - 40])
        self.assertEqual(
            parts_of(GREAT, HUGE),
            [10 ** 15, 10 ** 60 - 10 ** 15, 10 ** 98 - 10 ** 60, GREAT - 10 ** 98],
        )

    def test_what_the_parts_must_be_for_every_bands(self):
        for bands in ALL_BANDS:
            for amount in edges_of(bands):
                with self.subTest(amount=amount, bands=bands):
                    self.check_parts(amount, bands)

    def test_each_amount_from_nought_to_two_hundred(self):
        for bands in ALL_BANDS:
            for amount in range(200):
                self.check_parts(amount, bands)

    def test_each_call_answers_a_list_of_its_own(self):
        first = parts_of(47, EXAMPLE)
        first.append(99)
        self.assertEqual(parts_of(47, EXAMPLE), [30, 10, 7])


class WorthTest(unittest.TestCase):
    def test_ordinary(self):
        self.assertEqual(worth(47, EXAMPLE), 30 * 10 + 10 * 15)
        self.assertEqual(worth(220, ((100, 10), (None, 30))), 4600)

    def test_nought_is_worth_nought(self):
        for bands in ALL_BANDS:
            self.assertEqual(worth(0, bands), 0)

    def test_at_each_upto_one_less_and_one_more(self):
        self.assertEqual(worth(29, EXAMPLE), 290)
        self.assertEqual(worth(30, EXAMPLE), 300)
        self.assertEqual(worth(31, EXAMPLE), 315)
        self.assertEqual(worth(39, EXAMPLE), 435)
        self.assertEqual(worth(40, EXAMPLE), 450)
        self.assertEqual(worth(41, EXAMPLE), 450)

    def test_one_pair_alone(self):
        self.assertEqual(worth(47, ALONE), 329)
        self.assertEqual(worth(GREAT, ((None, 0),)), 0)
        self.assertEqual(worth(GREAT, ((None, GREAT),)), GREAT * GREAT)

    def test_thirteen_bands(self):
        by_units = sum(each_at(unit, THIRTEEN) for unit in range(1, 151))
        self.assertEqual(worth(150, THIRTEEN), by_units)

    def test_great_numbers(self):
        self.assertEqual(worth(10 ** 15, EXAMPLE), 450)
        self.assertEqual(worth(10 ** 15, HUGE), 10 ** 70 + 3 * 10 ** 15)
        self.assertEqual(
            worth(GREAT, HUGE),
            10 ** 15 * (10 ** 55 + 3)
            + (10 ** 98 - 10 ** 60) * (7 * 10 ** 52 + 1)
            + (GREAT - 10 ** 98) * (10 ** 99 + 9),
        )

    def test_one_more_is_worth_the_each_of_its_band(self):
        for bands in ALL_BANDS:
            for amount in edges_of(bands) + list(range(200)):
                with self.subTest(amount=amount, bands=bands):
                    more = worth(amount + 1, bands) - worth(amount, bands)
                    self.assertEqual(more, each_at(amount + 1, bands))

    def test_the_sum_of_the_parts_times_each(self):
        for bands in ALL_BANDS:
            for amount in edges_of(bands):
                total = 0
                for place, part in enumerate(parts_of(amount, bands)):
                    total += part * bands[place][1]
                self.assertEqual(worth(amount, bands), total)


if __name__ == "__main__":
    unittest.main()
