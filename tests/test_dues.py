"""Promise [6]: the due of a pay by a due table."""

import unittest

from wagebook.bands import due_of

EXAMPLE = (((100, 10), (None, 30)), 9, 50)
GREAT = 10 ** 99 + 12345


class DueTest(unittest.TestCase):
    def test_example_of_the_document(self):
        self.assertEqual(due_of(220, EXAMPLE), 41)

    def test_a_pay_of_nought(self):
        self.assertEqual(due_of(0, EXAMPLE), 0)
        self.assertEqual(due_of(0, (((None, 100),), 0, 1)), 0)

    def test_relief_greater_than_the_worth(self):
        # The worth is 10 hundreds at a pay of 100, the relief 9 less 2.
        self.assertEqual(due_of(100, EXAMPLE), 3)
        self.assertEqual(due_of(100, (EXAMPLE[0], 12, 50)), 0)
        self.assertEqual(due_of(100, (EXAMPLE[0], 13, 50)), 0)
        self.assertEqual(due_of(100, (EXAMPLE[0], 11, 50)), 1)
        self.assertEqual(due_of(100, (EXAMPLE[0], GREAT, 50)), 0)

    def test_relief_is_no_less_than_nought(self):
        # From a pay of 450 on, the relief is nought; it never adds to the due.
        self.assertEqual(due_of(449, EXAMPLE), (1000 + 349 * 30) // 100 - 1)
        self.assertEqual(due_of(450, EXAMPLE), (1000 + 350 * 30) // 100)
        self.assertEqual(due_of(500, EXAMPLE), 130)
        self.assertEqual(due_of(10 ** 6, EXAMPLE), (1000 + (10 ** 6 - 100) * 30) // 100)

    def test_what_is_left_of_a_hundred(self):
        flat = (((None, 1),), 0, 1)
        self.assertEqual(due_of(99, flat), 0)
        self.assertEqual(due_of(100, flat), 1)
        self.assertEqual(due_of(101, flat), 1)
        self.assertEqual(due_of(199, flat), 1)
        self.assertEqual(due_of(200, flat), 2)

    def test_hundreds_are_taken_of_the_whole_worth(self):
        # 99 and 99 are 198, though neither part makes a hundred.
        self.assertEqual(due_of(6, (((3, 33), (None, 33)), 0, 1)), 1)

    def test_what_is_left_of_a_hundred_goes_ahead_of_the_relief(self):
        # 199 is one hundred; less a relief of one that is nought.
        self.assertEqual(due_of(199, (((None, 1),), 1, 1000)), 0)
        # 250 is two hundreds; less a relief of one that is one.
        self.assertEqual(due_of(250, (((None, 1),), 1, 1000)), 1)

    def test_what_is_left_of_per(self):
        whole = ((None, 100),)
        self.assertEqual(due_of(49, (whole, 9, 50)), 40)
        self.assertEqual(due_of(50, (whole, 9, 50)), 42)
        self.assertEqual(due_of(51, (whole, 9, 50)), 43)
        self.assertEqual(due_of(99, (whole, 9, 50)), 91)
        self.assertEqual(due_of(100, (whole, 9, 50)), 93)

    def test_per_of_one(self):
        whole = ((None, 100),)
        self.assertEqual(due_of(4, (whole, 10, 1)), 0)
        self.assertEqual(due_of(5, (whole, 10, 1)), 0)
        self.assertEqual(due_of(6, (whole, 10, 1)), 2)
        self.assertEqual(due_of(11, (whole, 10, 1)), 11)

    def test_each_of_nought_and_of_a_hundred(self):
        for pay in (0, 1, 99, 100, 10 ** 15, GREAT):
            self.assertEqual(due_of(pay, (((None, 0),), 0, 1)), 0)
            self.assertEqual(due_of(pay, (((None, 0),), 5, 7)), 0)
            self.assertEqual(due_of(pay, (((None, 100),), 0, 1)), pay)
        mixed = (((100, 0), (300, 100), (None, 0)), 0, 1)
        self.assertEqual(due_of(100, mixed), 0)
        self.assertEqual(due_of(250, mixed), 150)
        self.assertEqual(due_of(1000, mixed), 200)

    def test_a_pay_of_a_hundred_figures(self):
        self.assertEqual(due_of(GREAT, EXAMPLE), (1000 + (GREAT - 100) * 30) // 100)
        bands = ((10 ** 98, 13), (None, 37))
        whole = 10 ** 98 * 13 + (GREAT - 10 ** 98) * 37
        top = 10 ** 97 + 3
        per = 10 ** 3 + 1
        self.assertEqual(due_of(GREAT, (bands, top, per)), whole // 100 - (top - GREAT // per))

    def test_numbers_somewhat_beyond_a_hundred_figures(self):
        pay = 10 ** 109 + 77
        self.assertEqual(due_of(pay, (((None, 100),), 10 ** 104, 10 ** 105)), pay - 10 ** 104 + 10 ** 4)


if __name__ == "__main__":
    unittest.main()
