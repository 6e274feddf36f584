"""All promises together: many deeds drawn by a fixed seed, beside a model that works by counting.

The model keeps only the list of what was told, and finds every number anew by walking days, units and
weeks one by one, so it shares neither code nor form with the package.
"""

import copy
import random
import time
import unittest

from wagebook.day import answers, rights

FIRST_WEEK = -14
END_WEEK = 14


class Model:
    """Finds everything from the deeds that were not refused, in the order in which they were done."""

    def __init__(self):
        self.told = []

    def latest(self, name, key):
        for deed in reversed(self.told):
            if deed[:len(key) + 1] == (name,) + key:
                return deed[-1]
        return None

    def table(self, name, when):
        while when >= FIRST_WEEK:
            found = self.latest(name, (when,))
            if found is not None:
                return found
            when -= 1
        return None

    def worth(self, amount, bands):
        total = 0
        for unit in range(1, amount + 1):
            total += next(each for upto, each in bands if upto is None or unit <= upto)
        return total

    def pay(self, who, week):
        bands = self.table("rate", week)
        hours = sum(self.latest("hours", (who, day)) or 0 for day in range(7 * week, 7 * week + 7))
        return self.worth(hours, bands) if bands is not None else 0

    def net(self, who, month, week):
        pay = sum(self.pay(who, at) for at in range(4 * month, 4 * month + 4) if at <= week)
        table = self.table("dues", month)
        if table is None:
            return pay
        bands, top, per = table
        relief = top
        for step in range(per, pay + 1, per):
            relief -= 1
        return pay - max(0, self.worth(pay, bands) // 100 - max(0, relief))

    def nets(self, who, week):
        return {month: self.net(who, month, week) for month in range(FIRST_WEEK // 4, END_WEEK // 4 + 1)}

    def right(self, who, week):
        return sum(self.nets(who, week).values())

    def paydays(self, who):
        return [deed for deed in self.told if deed[:2] == ("payday", who)]

    def paid(self, who):
        return sum(deed[3] for deed in self.paydays(who))

    def carried(self, who):
        held = self.paydays(who)
        return held[-1][4] if held else 0

    def old_nets(self, who):
        """What the nets were at the last payday: by all that had been told up to it."""
        held = self.paydays(who)
        if not held:
            return {}
        past = Model()
        past.told = self.told[:max(at for at, deed in enumerate(self.told) if deed is held[-1])]
        return past.nets(who, held[-1][2])

    def payday(self, who, week):
        held = self.paydays(who)
        if held and week < held[-1][2]:
            return "too early"
        old = self.old_nets(who)
        new = self.nets(who, week)
        lines = [(month, new[month] - old.get(month, 0)) for month in new if new[month] != old.get(month, 0)]
        # By the lines and not by the right, which [9] says must come to the same.
        left = self.carried(who) + sum(change for month, change in lines)
        paid = left if left > 0 else 0
        self.told.append(("payday", who, week, paid, left - paid))
        return (paid, left - paid, lines)

    def rights(self, names, week):
        there = []
        for who in sorted(names):
            days = range(7 * FIRST_WEEK, 7 * END_WEEK + 7)
            if self.paydays(who) or any(self.latest("hours", (who, day)) for day in days):
                there.append((who, self.right(who, week), self.paid(who)))
        return there

    def answer(self, deed):
        name = deed[0]
        if name == "hours":
            if deed[3] not in range(25):
                return "no hours"
            self.told.append(deed)
            return self.pay(deed[1], deed[2] // 7)
        if name in ("rate", "dues"):
            if not self.good(deed[2], name):
                return "no table"
            self.told.append(deed)
            return "told"
        if name == "payday":
            return self.payday(deed[1], deed[2])
        if name == "paid":
            return self.paid(deed[1])
        if name == "pay":
            return self.pay(deed[1], deed[2])
        if name == "net":
            return self.net(deed[1], deed[2] // 4, deed[2])
        right = self.right(deed[1], deed[2])
        return right if name == "right" else right - self.paid(deed[1])

    def good(self, table, name):
        bands = table if name == "rate" else table[0]
        uptos = [upto for upto, each in bands]
        eaches = [each for upto, each in bands]
        if uptos.count(None) != 1 or uptos[-1] is not None:
            return False
        if uptos[:-1] != sorted(set(uptos[:-1])) or min(uptos[:-1] + [1]) < 1 or min(eaches) < 0:
            return False
        return name == "rate" or (max(eaches) <= 100 and table[1] >= 0 and table[2] >= 1)


def draw_bands(rng, greatest_upto, greatest_each):
    uptos = sorted(rng.sample(range(1, greatest_upto), rng.randrange(4)))
    if rng.random() < 0.1 and uptos:
        uptos[rng.randrange(len(uptos))] = rng.choice((None, 0, -1, uptos[0]))
    bands = [(upto, rng.randrange(greatest_each)) for upto in uptos] + [(None, rng.randrange(greatest_each))]
    if rng.random() < 0.05:
        bands[rng.randrange(len(bands))] = (bands[-1][0], -1)
    if rng.random() < 0.05:
        bands = bands[:-1]
    return tuple(bands)


def draw_deed(rng, names, step):
    """Days, weeks and months come again and again, and paydays move on slowly, so much is told late."""
    who = rng.choice(names)
    week = rng.randrange(FIRST_WEEK, END_WEEK)
    name = rng.choice(("hours",) * 8 + ("rate", "dues", "payday", "payday", "pay", "net", "right", "owing", "paid"))
    if name == "hours":
        day = 9 * rng.randrange(-9, 9) + rng.choice((0, 0, 0, 1))
        return (name, who, day, rng.choice((-1, 0, 0, 1, 8, 8, 9, 12, 24, 25)))
    if name == "rate":
        return (name, rng.choice((FIRST_WEEK, -8, -3, 2, week)), draw_bands(rng, 40, 6))
    if name == "dues":
        return (name, week // 4, (draw_bands(rng, 200, 102), rng.randrange(-1, 30), rng.randrange(0, 30)))
    if name == "payday":
        return (name, who, step // 4 + rng.randrange(-9, 1))
    if name == "paid":
        return (name, who)
    return (name, who, week)


class ModelTest(unittest.TestCase):
    def test_drawn_deeds_are_answered_as_the_model_does(self):
        rng = random.Random(20261116)
        kinds = {}
        for run in range(120):
            names = ["ann", "bob", ""][:rng.randrange(1, 4)]
            deeds = [draw_deed(rng, names, step) for step in range(60)]
            model = Model()
            expected = [model.answer(deed) for deed in deeds]
            self.assertEqual(answers(deeds), expected)
            week = rng.randrange(FIRST_WEEK, END_WEEK)
            self.assertEqual(rights(deeds, week), model.rights(names, week))
            for answer in expected:
                kind = answer if isinstance(answer, str) else "carried" if isinstance(answer, tuple) and answer[1] else ""
                kinds[kind] = kinds.get(kind, 0) + 1
        for kind in ("no hours", "no table", "too early", "told", "carried"):
            self.assertGreater(kinds.get(kind, 0), 20, kinds)


class SizeTest(unittest.TestCase):
    def far_deeds(self, rounds):
        deeds = []
        for n in range(rounds):
            far = (n * 7919 - 300) * 10 ** 12 + n
            deeds.append(("hours", "ann", 7 * far, n % 25))
            deeds.append(("rate", far, ((5, n), (20, 3 * n), (None, 10 ** 90 + n))))
            deeds.append(("dues", far // 4, (((10 ** 80, n % 101), (None, 50)), 10 ** 50 + n, n + 1)))
            deeds.append(("payday", "ann", far))
            deeds.append(("right", "ann", 10 ** 99))
            deeds.append(("owing", "ann", -10 ** 99))
            deeds.append(("net", "ann", far))
        return deeds

    def test_many_deeds_far_apart_end_in_little_time(self):
        for rounds in (30, 60):
            deeds = self.far_deeds(rounds)
            begun = time.perf_counter()
            given = answers(deeds)
            there = rights(deeds, 10 ** 99)
            self.assertLess(time.perf_counter() - begun, 5)
            self.assertEqual(len(given), len(deeds))
            paid = sum(answer[0] for answer in given if isinstance(answer, tuple))
            self.assertEqual(there, [("ann", given[-3], paid)])
            self.assertGreater(paid, 10 ** 90)

    def test_many_persons(self):
        deeds = [("rate", -10 ** 20, ((None, 10),))]
        deeds += [("hours", f"p{n:03}", n * 10 ** 13, 1 + n % 24) for n in range(250)]
        deeds += [("payday", f"p{n:03}", 10 ** 20) for n in range(0, 250, 2)]
        expected = []
        for n in range(250):
            right = 10 * (1 + n % 24)
            expected.append((f"p{n:03}", right, right if n % 2 == 0 else 0))
        self.assertEqual(rights(deeds, 10 ** 20), expected)


class HandedInTest(unittest.TestCase):
    def test_the_deeds_stay_as_they_were(self):
        rng = random.Random(7)
        deeds = [draw_deed(rng, ["ann", "bob"], step) for step in range(200)]
        kept = list(deeds)
        deep = copy.deepcopy(deeds)
        answers(deeds)
        rights(deeds, 3)
        self.assertEqual(deeds, deep)
        self.assertTrue(all(deed is other for deed, other in zip(deeds, kept)))

    def test_nothing_is_kept_from_one_call_to_the_next(self):
        deeds = [("rate", 0, ((None, 10),)), ("hours", "ann", 0, 8), ("payday", "ann", 0), ("payday", "ann", 0)]
        first = answers(deeds)
        first[2][2].append("changed by the caller")
        self.assertEqual(answers(deeds), ["told", 80, (80, 0, [(0, 80)]), (0, 0, [])])
        self.assertEqual(answers([("paid", "ann"), ("pay", "ann", 0), ("payday", "ann", -9)]), [0, 0, (0, 0, [])])
        self.assertEqual(rights(deeds, 0), rights(deeds, 0))
        self.assertEqual(rights([], 0), [])

    def test_no_deeds(self):
        given = answers([])
        self.assertEqual(given, [])
        self.assertIs(type(given), list)


if __name__ == "__main__":
    unittest.main()
