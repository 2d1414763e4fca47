import copy
import random
import unittest

from fallstones.beats import net_beats
from fallstones.errors import NoNet, NoNumber
from fallstones.tables import tables_of, unlesses
from tests import netreference, reference


class TestTables(unittest.TestCase):
    def test_by_hand(self):
        net = [("in", 0), ("in", 1), ("go",), ("or", 0, 1), ("both", 0, 1), ("unless", 0, 1), ("unless", 2, 0), ("late", 1, 5)]
        self.assertEqual(tables_of(net, 2), [0b1010, 0b1100, 0b1111, 0b1110, 0b1000, 0b0010, 0b0101, 0b1100])
        self.assertEqual(tables_of([("in", 0)], 1), [2])
        self.assertEqual(tables_of([("go",)], 1), [3])
        self.assertEqual(tables_of([("go",)], 6), [2 ** 64 - 1])

    def test_ins(self):
        for n in range(1, 7):
            for k in range(n):
                expected = sum(2 ** choice for choice in range(2 ** n) if choice // 2 ** k % 2 == 1)
                self.assertEqual(tables_of([("in", k)], n), [expected])

    def test_parts_the_same(self):
        self.assertEqual(tables_of([("in", 0), ("or", 0, 0), ("both", 0, 0), ("unless", 0, 0)], 1), [2, 2, 2, 0])

    def test_against_reference(self):
        chance = random.Random(1)
        for n in range(1, 7):
            for _ in range(40):
                net = netreference.random_net(chance, 9, n)
                expected = [
                    sum(2 ** choice for choice in range(2 ** n) if netreference.is_so(net, at, choice))
                    for at in range(len(net))
                ]
                told = tables_of(net, n)
                self.assertIsInstance(told, list)
                self.assertEqual(told, expected)

    def test_more_ways_than_needed(self):
        net = [("in", 1), ("in", 0), ("unless", 0, 1)]
        for n in range(2, 7):
            expected = [choice for choice in range(2 ** n) if choice % 4 == 2]
            self.assertEqual(tables_of(net, n)[2], sum(2 ** choice for choice in expected))

    def test_a_chain_of_a_thousand(self):
        net = [("in", 0), ("in", 5)] + [("unless", at, at + 1) for at in range(998)]
        told = tables_of(net, 6)
        self.assertEqual(len(told), 1000)
        one, other = told[:2]
        for table in told[2:]:
            one, other = other, one & (2 ** 64 - 1 - other)
            self.assertEqual(table, other)
        chain = [("in", 3)] + [("late", at, 1) for at in range(999)]
        self.assertEqual(len(set(tables_of(chain, 4))), 1)

    def test_so_where_it_has_a_beat_without_unlesses(self):
        chance = random.Random(2)
        for _ in range(60):
            net = netreference.random_net(chance, 9, 3, ("in", "go", "or", "both", "late"))
            tables = tables_of(net, 3)
            for choice in range(8):
                told = net_beats(net, [0 if choice // 2 ** k % 2 else None for k in range(3)])
                self.assertEqual([table // 2 ** choice % 2 == 1 for table in tables], [beat is not None for beat in told])


class TestUnlesses(unittest.TestCase):
    def test_how_many(self):
        self.assertEqual(unlesses([("go",)]), 0)
        self.assertEqual(unlesses([("in", 0), ("unless", 0, 0)]), 1)
        self.assertEqual(unlesses([("in", 0), ("or", 0, 0), ("unless", 0, 1), ("both", 0, 2), ("late", 1, 1), ("unless", 2, 3)]), 2)
        self.assertEqual(unlesses([("in", 0)] + [("unless", at, at) for at in range(999)]), 999)


class TestRefused(unittest.TestCase):
    def test_no_net_ahead_of_no_number(self):
        for net in netreference.NO_NETS + reference.OTHER_THINGS:
            with self.subTest(net=net):
                self.assertRaises(NoNet, unlesses, net)
                for n in (1, 6, 0, 7, True, None, "1"):
                    self.assertRaises(NoNet, tables_of, net, n)

    def test_no_number(self):
        others = [thing for thing in reference.OTHER_THINGS if not isinstance(thing, int)]
        for n in [0, 7, -1, 10 ** 30, True, False, "1", None, [1], (1,)] + others:
            with self.subTest(n=n):
                self.assertRaises(NoNumber, tables_of, [("in", 0)], n)
                self.assertRaises(NoNumber, tables_of, [("go",)], n)

    def test_above_each_k(self):
        for k in range(6):
            for net in ([("in", k)], [("in", 0), ("in", k), ("go",)], [("in", k), ("in", 0), ("or", 0, 1)]):
                for n in range(0, 8):
                    if k < n <= 6:
                        self.assertEqual(len(tables_of(net, n)), len(net))
                    else:
                        self.assertRaises(NoNumber, tables_of, net, n)


class TestOnesOwn(unittest.TestCase):
    def test_ones_own(self):
        net = [("in", 0), ("in", 1), ("unless", 0, 1)]
        before = copy.deepcopy(net)
        told = tables_of(net, 2)
        expected = list(told)
        told.clear()
        tables_of(net, 2)[0] = 5
        self.assertEqual(tables_of(net, 2), expected)
        self.assertEqual(unlesses(net), 1)
        self.assertEqual(net, before)


if __name__ == "__main__":
    unittest.main()
