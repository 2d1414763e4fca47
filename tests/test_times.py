import copy
import random
import unittest

from fallstones.beats import net_beats
from fallstones.errors import NoLates, NoNet, NoNumber
from fallstones.nets import is_net
from fallstones.tables import tables_of
from fallstones.times import long_way, put_in, right_times, times_by
from tests import netreference, reference

LARGE = 10 ** 30 - 1
SMALL_NETS = [
    [("go",)],
    [("in", 0), ("or", 0, 0)],
    [("in", 0), ("both", 0, 0)],
    [("in", 0), ("unless", 0, 0)],
    [("in", 0), ("late", 0, 2)],
    [("in", 0), ("late", 0, 1), ("or", 0, 1)],
    [("in", 0), ("late", 0, 1), ("or", 1, 0)],
    [("in", 0), ("late", 0, 2), ("both", 0, 1)],
    [("in", 0), ("late", 0, 2), ("unless", 1, 0)],
    [("in", 0), ("late", 0, 2), ("unless", 0, 1)],
    [("in", 0), ("unless", 0, 0), ("unless", 1, 1)],
    [("in", 0), ("in", 1), ("unless", 0, 1), ("or", 2, 0)],
    [("in", 0), ("go",), ("unless", 1, 0), ("both", 2, 0)],
    [("in", 0), ("in", 1), ("unless", 0, 1), ("unless", 1, 0), ("or", 2, 3)],
    [("in", 0), ("unless", 0, 0), ("both", 0, 1), ("unless", 0, 2)],
]


def chain(word):
    return [("in", 0)] + [(word, at, at) for at in range(999)]


LATE_CHAIN = [("in", 0)] + [("late", at, at) for at in range(999)]


class TestTimesBy(unittest.TestCase):
    def test_in_and_go(self):
        self.assertEqual(times_by([("in", 3), ("go",), ("in", 0)], [(), (), ()]), [0, 0, 0])

    def test_late(self):
        net = [("in", 0), ("late", 0, 5), ("late", 1, 0), ("late", 1, LARGE)]
        self.assertEqual(times_by(net, [(), (0,), (0,), (0,)]), [0, 5, 5, 5 + LARGE])
        self.assertEqual(times_by(net, [(), (3,), (2,), (LARGE,)]), [0, 8, 10, 8 + 2 * LARGE])

    def test_or(self):
        net = [("in", 0), ("late", 0, 4), ("or", 0, 1)]
        self.assertEqual(times_by(net, [(), (0,), (4, 0)]), [0, 4, 4])
        self.assertEqual(times_by(net, [(), (0,), (9, 5)]), [0, 4, 9])
        for row in ((0, 0), (3, 0), (5, 0), (4, 1), (0, 4)):
            self.assertIsNone(times_by(net, [(), (0,), row]))

    def test_both(self):
        net = [("in", 0), ("late", 0, 4), ("both", 0, 1)]
        told = [((0, 0), 4), ((4, 0), 4), ((5, 0), 5), ((0, 3), 7), ((9, 3), 9)]
        for row, time in told:
            self.assertEqual(times_by(net, [(), (0,), row]), [0, 4, time])

    def test_unless(self):
        net = [("in", 0), ("late", 0, 4), ("unless", 1, 0)]
        self.assertEqual(times_by(net, [(), (0,), (0, 0)]), [0, 4, 4])
        self.assertEqual(times_by(net, [(), (0,), (2, 0)]), [0, 4, 6])
        self.assertEqual(times_by(net, [(), (0,), (0, 3)]), [0, 4, 4])
        # When the second part comes, or ahead of it.
        self.assertIsNone(times_by(net, [(), (0,), (0, 4)]))
        self.assertIsNone(times_by(net, [(), (0,), (0, 5)]))
        other = [("in", 0), ("late", 0, 4), ("unless", 0, 1)]
        self.assertIsNone(times_by(other, [(), (0,), (0, 0)]))
        self.assertIsNone(times_by(other, [(), (0,), (4, 0)]))
        self.assertEqual(times_by(other, [(), (0,), (5, 0)]), [0, 4, 5])

    def test_wrong_anywhere(self):
        net = [("in", 0), ("unless", 0, 0), ("late", 1, 1)]
        self.assertIsNone(times_by(net, [(), (0, 0), (0,)]))
        self.assertIsNone(times_by(net[:2], [(), (2, 2)]))

    def test_against_reference(self):
        chance = random.Random(1)
        right = 0
        for _ in range(1500):
            net = netreference.random_net(chance, 6)
            lates = netreference.random_lates(chance, net)
            told = times_by(net, lates)
            right += told is not None
            self.assertEqual(told, netreference.times(net, lates))
        self.assertGreater(right, 300)
        self.assertLess(right, 1300)

    def test_small_nets_against_reference(self):
        for net in SMALL_NETS:
            for lates in netreference.lates_up_to(net, 2):
                self.assertEqual(times_by(net, lates), netreference.times(net, lates))

    def test_a_thousand_nodes(self):
        self.assertEqual(times_by(LATE_CHAIN, [()] + [(1,)] * 999)[-1], sum(range(999)) + 999)
        self.assertEqual(times_by(chain("or"), [()] + [(2, 2)] * 999)[-1], 2 * 999)
        self.assertEqual(times_by(chain("unless"), [()] + [(2, 1)] * 999)[-1], 2 * 999)
        self.assertIsNone(times_by(chain("unless"), [()] + [(2, 1)] * 998 + [(0, 0)]))


class TestRightTimes(unittest.TestCase):
    def assert_right(self, net):
        told = right_times(net)
        self.assertIsInstance(told, tuple)
        times, lates = told
        self.assertIsInstance(times, list)
        self.assertIsInstance(lates, list)
        self.assertEqual(times_by(net, lates), times)
        return times

    def test_by_hand(self):
        net = [
            ("in", 0), ("go",), ("late", 0, 5), ("or", 0, 2), ("both", 2, 0), ("unless", 2, 0), ("unless", 0, 2),
            ("unless", 6, 5), ("or", 6, 6),
        ]
        self.assertEqual(self.assert_right(net), [0, 0, 5, 5, 5, 5, 6, 6, 6])

    def test_parts_the_same(self):
        net = [("in", 0), ("or", 0, 0), ("both", 0, 0), ("unless", 0, 0), ("unless", 3, 3), ("both", 4, 4), ("or", 4, 4)]
        self.assertEqual(self.assert_right(net), [0, 0, 0, 1, 2, 2, 2])

    def test_least_of_all_small_lates(self):
        # No lates above the greatest time are needed for the least one.
        for net in SMALL_NETS:
            with self.subTest(net=net):
                times = self.assert_right(net)
                found = [netreference.times(net, lates) for lates in netreference.lates_up_to(net, 3)]
                right = [told for told in found if told is not None]
                self.assertIn(times, right)
                for told in right:
                    self.assertTrue(all(least <= time for least, time in zip(times, told)))

    def test_least_of_random_lates(self):
        chance = random.Random(2)
        held = 0
        for _ in range(300):
            net = netreference.random_net(chance, 6, most_late=2)
            times = self.assert_right(net)
            for _ in range(20):
                told = netreference.times(net, netreference.random_lates(chance, net))
                if told is not None:
                    held += 1
                    self.assertTrue(all(least <= time for least, time in zip(times, told)))
        self.assertGreater(held, 1000)

    def test_least_by_each_part(self):
        # Each node's least time follows from its parts' least times.
        chance = random.Random(3)
        for _ in range(200):
            net = netreference.random_net(chance, 14, most_late=5)
            times = self.assert_right(net)
            for at, node in enumerate(net):
                ahead = [times[part] for part in netreference.parts(node)]
                if node[0] == "unless":
                    ahead[1] += 1
                if node[0] == "late":
                    ahead[0] += node[2]
                self.assertEqual(times[at], max(ahead, default=0))

    def test_thirty_figures(self):
        net = [("in", 0), ("late", 0, LARGE), ("unless", 0, 1), ("or", 0, 2), ("late", 3, LARGE)]
        self.assertEqual(self.assert_right(net), [0, LARGE, LARGE + 1, LARGE + 1, 2 * LARGE + 1])

    def test_a_thousand_nodes(self):
        for net, last in ((chain("unless"), 999), (chain("or"), 0), (chain("both"), 0), (LATE_CHAIN, sum(range(999)))):
            self.assertEqual(self.assert_right(net)[-1], last)
        ladder = [("in", 0), ("in", 1)] + [("unless", at, at + 1) for at in range(998)]
        self.assertEqual(self.assert_right(ladder)[-1], 998)


class TestPutIn(unittest.TestCase):
    def test_by_hand(self):
        net = [("in", 1), ("go",), ("unless", 0, 1), ("late", 2, 7), ("or", 2, 3), ("both", 4, 0)]
        lates = [(), (), (1, 0), (2,), (9, 0), (0, 5)]
        expected = [
            ("in", 1), ("go",), ("late", 0, 1), ("unless", 2, 1), ("late", 3, 2), ("late", 4, 7), ("late", 3, 9),
            ("or", 6, 5), ("late", 0, 5), ("both", 7, 8),
        ]
        self.assertEqual(put_in(net, lates), (expected, [0, 1, 3, 5, 7, 9]))

    def assert_put_in(self, net, lates):
        told = put_in(net, lates)
        self.assertIsInstance(told, tuple)
        made, numbers = told
        self.assertIsInstance(made, list)
        self.assertIsInstance(numbers, list)
        self.assertIs(is_net(made), True)
        self.assertEqual(len(numbers), len(net))
        self.assertEqual(sorted(numbers), numbers)
        many = sum(1 for row in lates for late in row if late != 0)
        self.assertEqual(len(made), len(net) + many)
        added = [at for at in range(len(made)) if at not in numbers]
        self.assertTrue(all(made[at][0] == "late" for at in added))
        for at, node in enumerate(net):
            new = made[numbers[at]]
            self.assertEqual(new[0], node[0])
            ends = len(netreference.parts(node)) + 1
            self.assertEqual(new[ends:], node[ends:])
            # The added ones stand ahead of the node, behind the one ahead of it.
            ahead = numbers[at - 1] if at else -1
            self.assertEqual(numbers[at] - ahead - 1, sum(1 for late in lates[at] if late != 0))
            for part, other, late in zip(netreference.parts(new), netreference.parts(node), lates[at]):
                if late == 0:
                    self.assertEqual(part, numbers[other])
                else:
                    self.assertEqual(made[part], ("late", numbers[other], late))
                    self.assertTrue(ahead < part < numbers[at])
        return made, numbers

    def assert_beats(self, net, lates, times):
        made, numbers = self.assert_put_in(net, lates)
        tables = tables_of(net, 3)
        for choice in range(8):
            told = net_beats(made, [0 if choice // 2 ** k % 2 else None for k in range(3)])
            for at, number in enumerate(numbers):
                so = tables[at] // 2 ** choice % 2 == 1
                self.assertEqual(told[number], times[at] if so else None)

    def test_right_times_put_in(self):
        chance = random.Random(4)
        for _ in range(150):
            net = netreference.random_net(chance, 12)
            times, lates = right_times(net)
            self.assert_beats(net, lates, times)

    def test_other_right_lates(self):
        chance = random.Random(5)
        held = 0
        for _ in range(600):
            net = netreference.random_net(chance, 6)
            lates = netreference.random_lates(chance, net)
            times = times_by(net, lates)
            if times is not None:
                held += 1
                self.assert_beats(net, lates, times)
        self.assertGreater(held, 100)

    def test_lates_that_are_not_right(self):
        chance = random.Random(6)
        wrong = 0
        for _ in range(300):
            net = netreference.random_net(chance, 8)
            lates = netreference.random_lates(chance, net, 2)
            wrong += times_by(net, lates) is None
            self.assert_put_in(net, lates)
        self.assertGreater(wrong, 50)
        self.assert_put_in([("in", 0), ("unless", 0, 0)], [(), (0, 0)])
        self.assert_put_in([("in", 0), ("unless", 0, 0)], [(), (3, 3)])

    def test_nothing_to_put_in(self):
        net = [("in", 0), ("late", 0, 3), ("both", 0, 1)]
        self.assertEqual(put_in(net, [(), (0,), (0, 0)]), (net, [0, 1, 2]))

    def test_a_thousand_nodes(self):
        self.assert_put_in(LATE_CHAIN, [()] + [(LARGE,)] * 999)
        self.assert_put_in(chain("or"), [()] + [(1, LARGE)] * 999)
        net = chain("unless")
        made, numbers = put_in(net, right_times(net)[1])
        # An unless of a node with itself is never so.
        self.assertEqual(net_beats(made, [0])[numbers[1]], None)


class TestLongWay(unittest.TestCase):
    def assert_way(self, net, node):
        way = long_way(net, node)
        self.assertIsInstance(way, list)
        at = node
        for step in way:
            self.assertIsInstance(step, tuple)
            told, part = step
            self.assertEqual(told, at)
            at = netreference.parts(net[at])[part]
            self.assertGreaterEqual(part, 0)
        self.assertIn(net[at][0], ("in", "go"))
        self.assertEqual(netreference.way_length(net, way), right_times(net)[0][node])
        return way

    def test_in_and_go(self):
        net = [("in", 4), ("go",), ("both", 0, 1)]
        self.assertEqual([long_way(net, 0), long_way(net, 1)], [[], []])
        self.assertEqual(len(long_way(net, 2)), 1)

    def test_by_hand(self):
        net = [("in", 0), ("late", 0, 5), ("unless", 0, 1), ("unless", 1, 0), ("or", 0, 2), ("or", 2, 0), ("both", 3, 4)]
        self.assertEqual(long_way(net, 1), [(1, 0)])
        self.assertEqual(long_way(net, 2), [(2, 1), (1, 0)])
        self.assertEqual(long_way(net, 3), [(3, 0), (1, 0)])
        self.assertEqual(long_way(net, 4), [(4, 1), (2, 1), (1, 0)])
        self.assertEqual(long_way(net, 5), [(5, 0), (2, 1), (1, 0)])
        self.assertEqual(long_way(net, 6), [(6, 1), (4, 1), (2, 1), (1, 0)])

    def test_one_beat_apart(self):
        for d in range(4):
            for one in range(4):
                net = [("in", 0), ("late", 0, d), ("late", 0, one), ("unless", 1, 2)]
                self.assert_way(net, 3)
                if d != one + 1:
                    self.assertEqual(long_way(net, 3)[0][1], 0 if d > one + 1 else 1)

    def test_random_nets(self):
        chance = random.Random(7)
        for _ in range(200):
            net = netreference.random_net(chance, 12)
            for node in range(len(net)):
                self.assert_way(net, node)

    def test_small_nets(self):
        for net in SMALL_NETS:
            for node in range(len(net)):
                self.assert_way(net, node)

    def test_a_thousand_nodes(self):
        self.assertEqual(self.assert_way(chain("unless"), 999), [(at, 1) for at in range(999, 0, -1)])
        self.assertEqual(self.assert_way(LATE_CHAIN, 999), [(at, 0) for at in range(999, 0, -1)])
        self.assertEqual(len(self.assert_way(chain("or"), 999)), 999)
        ladder = [("go",), ("in", 1)] + [("unless", at, at + 1) for at in range(998)]
        self.assert_way(ladder, 999)

    def test_thirty_figures(self):
        net = [("in", 0), ("late", 0, LARGE), ("late", 0, LARGE - 1), ("unless", 1, 2), ("unless", 2, 1), ("or", 3, 4)]
        for node in range(len(net)):
            self.assert_way(net, node)


class TestRefused(unittest.TestCase):
    def test_no_net_first(self):
        for net in netreference.NO_NETS + reference.OTHER_THINGS:
            with self.subTest(net=net):
                self.assertRaises(NoNet, right_times, net)
                for thing in ([], [()], None, "0", True):
                    self.assertRaises(NoNet, times_by, net, thing)
                    self.assertRaises(NoNet, put_in, net, thing)
                for node in (0, -1, None, True, "0"):
                    self.assertRaises(NoNet, long_way, net, node)

    def test_no_lates(self):
        net = [("in", 0), ("go",), ("late", 0, 1), ("or", 0, 1)]
        good = [(), (), (0,), (0, 0)]
        self.assertEqual(times_by(net, good), [0, 0, 1, 0])
        wrong = [
            good[:-1], good + [()], [()] + good, tuple(good), {0: ()}, [], "", None, True, 0,
            [[], (), (0,), (0, 0)], [(), (), [0], (0, 0)], [(), (), (0,), [0, 0]], [(0,), (), (0,), (0, 0)],
            [(), (0,), (0,), (0, 0)], [(), (), (), (0, 0)], [(), (), (0, 0), (0, 0)], [(), (), (0,), (0,)],
            [(), (), (0,), ()], [(), (), (0,), (0, 0, 0)], [None, (), (0,), (0, 0)], [(), (), 0, (0, 0)], [(), "", (0,), (0, 0)],
            [(), (), "0", (0, 0)], [(), (), (0,), "00"], [(), (), (0,), {0: 0, 1: 0}],
        ]
        for thing in (-1, True, False, "0", "", None, [], (), {}, (0,), reference.Plain()):
            wrong += [[(), (), (thing,), (0, 0)], [(), (), (0,), (thing, 0)], [(), (), (0,), (0, thing)]]
        for lates in wrong + reference.OTHER_THINGS:
            with self.subTest(lates=lates):
                self.assertRaises(NoLates, times_by, net, lates)
                self.assertRaises(NoLates, put_in, net, lates)

    def test_no_number(self):
        net = [("in", 0), ("go",), ("or", 0, 1)]
        others = [thing for thing in reference.OTHER_THINGS if not isinstance(thing, int)]
        for node in [-1, 3, 4, 10 ** 30, True, False, "0", "", None, [0], (0,)] + others:
            with self.subTest(node=node):
                self.assertRaises(NoNumber, long_way, net, node)
        self.assertRaises(NoNumber, long_way, [("go",)], 1)


class TestOnesOwn(unittest.TestCase):
    def test_ones_own(self):
        net = [("in", 0), ("late", 0, 5), ("unless", 0, 1), ("or", 1, 2)]
        lates = [(), (0,), (6, 0), (1, 0)]
        before = copy.deepcopy((net, lates))
        asks = [
            lambda: times_by(net, lates), lambda: right_times(net)[0], lambda: right_times(net)[1],
            lambda: put_in(net, lates)[0], lambda: put_in(net, lates)[1], lambda: long_way(net, 3),
        ]
        for ask in asks:
            told = ask()
            expected = copy.deepcopy(told)
            self.assertTrue(expected)
            told[0] = "other"
            told.clear()
            self.assertEqual(ask(), expected)
            self.assertEqual((net, lates), before)
        same = [(), (0,), (0, 0), (0, 0)]
        put_in(net, same)[0].clear()
        self.assertEqual((net, same), (before[0], [(), (0,), (0, 0), (0, 0)]))


if __name__ == "__main__":
    unittest.main()
