import copy
import itertools
import random
import unittest

from fallstones.errors import NoNumber, NoTiming
from fallstones.timings import normal_rows, unlawful
from tests import reference, timingreference

BOUNDS = [(n, m) for n in range(1, 4) for m in range(4)]
NO_WAYS = [0, 4, -1, 10 ** 30, True, False, "1", "", None, [1], (1,), {1: 1}, b"1", set(), len]
NO_SPANS = [4, 5, -1, 10 ** 30, True, False, "1", "", None, [1], (1,), {1: 1}, b"1", set(), len]


class TestNormalRows(unittest.TestCase):
    def test_by_hand(self):
        self.assertEqual(normal_rows(1, 0), [(0,)])
        self.assertEqual(normal_rows(1, 3), [(0,)])
        self.assertEqual(normal_rows(2, 0), [(0, 0), (0, None), (None, 0)])
        self.assertEqual(normal_rows(2, 1), [(0, 0), (0, 1), (0, None), (1, 0), (None, 0)])
        self.assertEqual(normal_rows(2, 2), [(0, 0), (0, 1), (0, 2), (0, None), (1, 0), (2, 0), (None, 0)])
        self.assertEqual(
            normal_rows(3, 0),
            [(0, 0, 0), (0, 0, None), (0, None, 0), (0, None, None), (None, 0, 0), (None, 0, None), (None, None, 0)],
        )

    def test_all(self):
        for n, m in BOUNDS:
            told = normal_rows(n, m)
            self.assertIsInstance(told, list)
            self.assertEqual(len(told), (m + 2) ** n - (m + 1) ** n)
            self.assertEqual(told, timingreference.normal_rows(n, m))
            for row in told:
                self.assertIs(type(row), tuple)
                self.assertTrue(all(thing is None or type(thing) is int for thing in row))

    def test_refused(self):
        for n in NO_WAYS + [thing for thing in reference.OTHER_THINGS if thing not in (1, True)]:
            for m in (0, 3, 4, None):
                self.assertRaises(NoNumber, normal_rows, n, m)
        for m in NO_SPANS + [thing for thing in reference.OTHER_THINGS if thing not in (0, 1, True, False)]:
            for n in (1, 3, 4, None):
                self.assertRaises(NoNumber, normal_rows, n, m)


class TestUnlawful(unittest.TestCase):
    def test_by_hand(self):
        rows = normal_rows(2, 1)
        timing = dict(zip(rows, [1, 1, 1, 1, 1]))
        self.assertIsNone(unlawful(2, 1, timing))
        # Whether the second one comes at 1 isn't known at 0.
        self.assertEqual(unlawful(2, 1, timing | {(0, 1): 0}), ((0, 1), (0, None)))
        self.assertEqual(unlawful(2, 1, timing | {(0, None): 0}), ((0, None), (0, 1)))
        self.assertIsNone(unlawful(2, 1, timing | {(0, None): 0, (0, 1): 0}))
        self.assertIsNone(unlawful(2, 1, timing | {(0, 1): None}))
        self.assertIsNone(unlawful(2, 1, timing | {(0, 0): None}))
        self.assertIsNone(unlawful(2, 1, timing | {(0, 0): 0}))
        self.assertEqual(unlawful(2, 1, timing | {(1, 0): 0, (None, 0): None}), ((1, 0), (None, 0)))

    def test_a_row_ahead_may_be_the_later_answer(self):
        # The answer 1 of the first row is no pair with the second one, as they differ at 1.
        timing = dict(zip(normal_rows(2, 1), [None, 1, 0, None, None]))
        self.assertEqual(unlawful(2, 1, timing), ((0, None), (0, 1)))

    def test_all_small_timings(self):
        for n, m in ((1, 0), (1, 1), (1, 3), (2, 0), (2, 1)):
            rows = timingreference.normal_rows(n, m)
            for answers in itertools.product([None, *range(m + 1)], repeat=len(rows)):
                timing = dict(zip(rows, answers))
                self.assertEqual(unlawful(n, m, timing), timingreference.unlawful(n, m, timing))

    def test_random_timings(self):
        chance = random.Random(1)
        for n, m in BOUNDS:
            for _ in range(6):
                timing = timingreference.random_timing(chance, n, m)
                self.assertEqual(unlawful(n, m, timing), timingreference.unlawful(n, m, timing))

    def test_lawful_ones_and_those_beside_them(self):
        chance = random.Random(2)
        broken = 0
        for n, m in BOUNDS:
            for timing in timingreference.lawful_timings(chance, n, m, 2):
                self.assertIsNone(unlawful(n, m, timing))
                other = dict(timing)
                other[chance.choice(list(other))] = chance.choice([None, *range(m + 1)])
                told = unlawful(n, m, other)
                self.assertEqual(told, timingreference.unlawful(n, m, other))
                if told is not None:
                    broken += 1
                    self.assertIs(type(told), tuple)
                    self.assertTrue(all(type(row) is tuple for row in told))
        self.assertGreater(broken, 60)

    def test_rows_in_any_order(self):
        chance = random.Random(3)
        for _ in range(20):
            timing = timingreference.random_timing(chance, 3, 2)
            rows = list(timing)
            chance.shuffle(rows)
            self.assertEqual(unlawful(3, 2, {row: timing[row] for row in rows}), unlawful(3, 2, timing))


class TestRefused(unittest.TestCase):
    def test_no_number_first(self):
        good = {(0,): 0}
        for n in NO_WAYS + [thing for thing in reference.OTHER_THINGS if thing not in (1, True)]:
            for timing in (good, {}, None):
                self.assertRaises(NoNumber, unlawful, n, 0, timing)
        for m in NO_SPANS + [thing for thing in reference.OTHER_THINGS if thing not in (0, 1, True, False)]:
            for timing in (good, {}, None):
                self.assertRaises(NoNumber, unlawful, 1, m, timing)

    def test_no_timing(self):
        good = {row: 1 for row in timingreference.normal_rows(2, 1)}
        self.assertIsNone(unlawful(2, 1, good))
        wrong = [list(good), list(good.items()), tuple(good), set(good), "", 0, None, True]
        for row in good:
            left_out = {other: good[other] for other in good if other != row}
            wrong.append(left_out)
            for other in ((1, 1), (0, 2), (None, None), (0,), (0, 0, 0), (0, -1), (-1, 0), "00", 0, None, (0, "1"), ("0", 0)):
                wrong += [left_out | {other: 1}, good | {other: 1}]
            for answer in (2, -1, 3, True, False, "1", "", [], (), {}, (1,), 10 ** 30):
                wrong.append(good | {row: answer})
        for timing in wrong + reference.OTHER_THINGS:
            with self.subTest(timing=timing):
                self.assertRaises(NoTiming, unlawful, 2, 1, timing)

    def test_truths_in_rows(self):
        rows = timingreference.normal_rows(2, 1)
        for at, row in enumerate(rows):
            for k, thing in enumerate(row):
                if thing is not None:
                    truth = tuple(bool(thing) if k == other else part for other, part in enumerate(row))
                    timing = {told: 1 for told in rows[:at] + [truth] + rows[at + 1:]}
                    self.assertEqual(timing, {told: 1 for told in rows})
                    self.assertRaises(NoTiming, unlawful, 2, 1, timing)
        self.assertRaises(NoTiming, unlawful, 1, 0, {(False,): 0})

    def test_other_bounds(self):
        for n, m in BOUNDS:
            timing = {row: 0 for row in timingreference.normal_rows(n, m)}
            self.assertIsNone(unlawful(n, m, timing))
            for other, span in BOUNDS:
                # Of one way in there is the same one row, whatever the span.
                if (other, span) != (n, m) and not n == other == 1:
                    self.assertRaises(NoTiming, unlawful, other, span, timing)


class TestOnesOwn(unittest.TestCase):
    def test_ones_own(self):
        told = normal_rows(2, 2)
        expected = list(told)
        told.clear()
        normal_rows(2, 2).append((9, 9))
        self.assertEqual(normal_rows(2, 2), expected)
        timing = dict(zip(normal_rows(2, 1), [None, 1, 0, None, None]))
        before = copy.deepcopy(timing)
        self.assertEqual(unlawful(2, 1, timing), unlawful(2, 1, timing))
        self.assertEqual(list(timing.items()), list(before.items()))


if __name__ == "__main__":
    unittest.main()
