import copy
import itertools
import random
import unittest

from fallstones.beats import net_beats
from fallstones.errors import CantBe, NoNumber, NoTiming
from fallstones.nets import is_net
from fallstones.timingnets import timing_net
from fallstones.timings import unlawful
from tests import reference, timingreference

BOUNDS = [(n, m) for n in range(1, 4) for m in range(4)]
LARGE = 10 ** 30 - 20
WORDS = ("in", "or", "both", "unless", "late")


def expected(timing, arrivals, m):
    least = min(beat for beat in arrivals if beat is not None)
    row = tuple(None if beat is None or beat - least > m else beat - least for beat in arrivals)
    return None if timing[row] is None else least + timing[row]


class TestTimingNet(unittest.TestCase):
    def told(self, n, m, timing):
        net = timing_net(n, m, timing)
        if all(answer is None for answer in timing.values()):
            self.assertIsNone(net)
        else:
            self.assertIs(is_net(net), True)
            self.assertLessEqual(len(net), 1000)
            self.assertEqual([node for node in net if node[0] not in WORDS], [])
            self.assertLess(max(node[1] for node in net if node[0] == "in"), n)
        return net

    def assert_answers(self, n, m, timing, start, things):
        net = self.told(n, m, timing)
        if net is None:
            return
        for row in itertools.product(things, repeat=n):
            if any(thing is not None for thing in row):
                arrivals = [None if thing is None else start + thing for thing in row]
                self.assertEqual(net_beats(net, arrivals)[-1], expected(timing, arrivals, m), arrivals)

    def assert_all(self, n, m, timing):
        self.assert_answers(n, m, timing, 0, [None, *range(m + 3)])

    def test_all_of_one_way(self):
        for m in range(4):
            for answer in [None, *range(m + 1)]:
                self.assert_all(1, m, {(0,): answer})

    def test_all_small_ones_of_two_ways(self):
        for m in (0, 1):
            rows = timingreference.normal_rows(2, m)
            for answers in itertools.product([None, *range(m + 1)], repeat=len(rows)):
                timing = dict(zip(rows, answers))
                if timingreference.unlawful(2, m, timing) is None:
                    self.assert_all(2, m, timing)
                else:
                    self.assertRaises(CantBe, timing_net, 2, m, timing)

    def test_all_smallest_of_three_ways(self):
        rows = timingreference.normal_rows(3, 0)
        for answers in itertools.product([None, 0], repeat=len(rows)):
            self.assert_all(3, 0, dict(zip(rows, answers)))

    def test_many_sorts(self):
        chance = random.Random(1)
        for n, m in BOUNDS:
            for timing in timingreference.lawful_timings(chance, n, m, 2 if n == 3 else 6):
                self.assert_all(n, m, timing)

    def test_late_and_far_apart(self):
        chance = random.Random(2)
        for n, m in BOUNDS:
            for _ in range(4):
                timing = timingreference.drawn(chance, n, m)
                self.assert_answers(n, m, timing, LARGE, [None, 0, 1, m, m + 1])
                self.assert_answers(n, m, timing, 7, [None, 0, m, m + 1, LARGE])

    def test_most_nodes(self):
        # Each row has an answer of its own as far as the span lets it: at its last beat all is known.
        chance = random.Random(3)
        for n, m in BOUNDS:
            rows = timingreference.normal_rows(n, m)
            self.assert_all(n, m, {row: m for row in rows})
            self.assert_all(n, m, {row: m if at % 2 == 0 else None for at, row in enumerate(rows)})
            self.assert_all(n, m, {row: chance.choice([m, m, None]) for row in rows})

    def test_unlawful(self):
        chance = random.Random(4)
        refused = 0
        for n, m in BOUNDS:
            for _ in range(20):
                timing = timingreference.random_timing(chance, n, m)
                if unlawful(n, m, timing) is not None:
                    refused += 1
                    self.assertRaises(CantBe, timing_net, n, m, timing)
                else:
                    self.assert_all(n, m, timing)
        self.assertGreater(refused, 100)

    def test_none(self):
        for n, m in BOUNDS:
            self.assertIsNone(timing_net(n, m, {row: None for row in timingreference.normal_rows(n, m)}))


class TestRefused(unittest.TestCase):
    def test_no_number_first(self):
        others = [thing for thing in reference.OTHER_THINGS if thing not in (0, 1)]
        for thing in [4, 5, -1, 10 ** 30, True, False, "1", None, [1], (1,)] + others:
            for timing in ({(0,): 0}, {}, None):
                self.assertRaises(NoNumber, timing_net, thing, 0, timing)
                self.assertRaises(NoNumber, timing_net, 1, thing, timing)
        self.assertRaises(NoNumber, timing_net, 0, 0, {})

    def test_no_timing_then(self):
        foreseeing = dict(zip(timingreference.normal_rows(2, 1), [None, 1, 0, None, None]))
        self.assertRaises(CantBe, timing_net, 2, 1, foreseeing)
        wrong = [foreseeing | {(1, 1): 0}, foreseeing | {(0, 0): 2}, foreseeing | {(0, 0): True}, list(foreseeing)]
        wrong += [{row: foreseeing[row] for row in foreseeing if row != other} for other in foreseeing]
        wrong += [{(False, 0) if row == (0, 0) else row: foreseeing[row] for row in foreseeing}]
        for timing in wrong + reference.OTHER_THINGS:
            with self.subTest(timing=timing):
                self.assertRaises(NoTiming, timing_net, 2, 1, timing)


class TestOnesOwn(unittest.TestCase):
    def test_ones_own(self):
        timing = timingreference.drawn(random.Random(5), 3, 2)
        before = copy.deepcopy(timing)
        told = timing_net(3, 2, timing)
        again = list(told)
        told.clear()
        self.assertEqual(timing_net(3, 2, timing), again)
        self.assertEqual(list(timing.items()), list(before.items()))


if __name__ == "__main__":
    unittest.main()
