import copy
import itertools
import random
import unittest

from fallstones.beats import net_beats
from fallstones.blocks import net_for
from fallstones.errors import CantBe, NoNumber, NoTables
from fallstones.nets import is_net
from fallstones.rising import falls_on
from fallstones.tables import tables_of, unlesses
from fallstones.times import put_in, right_times
from tests import netreference, reference, tablereference


def blocks_needed(falls):
    """The least k with 2 ** k above the falls."""
    return next(k for k in range(9) if 2 ** k > falls)


class TestNetFor(unittest.TestCase):
    def assert_net(self, n, tables, has_go):
        told = net_for(n, tables, has_go)
        self.assertIsInstance(told, tuple)
        net, outs, row = told
        self.assertIs(is_net(net), True)
        self.assertLessEqual(len(net), 1000)
        self.assertIsInstance(outs, list)
        self.assertEqual(len(outs), len(tables))
        found = tables_of(net, n)
        for table, out in zip(tables, outs):
            if table == 0:
                self.assertIsNone(out)
            else:
                self.assertIs(type(out), int)
                self.assertIn(out, range(len(net)))
                self.assertEqual(found[out], table)
        self.assertIsInstance(row, list)
        falls = falls_on(n, tables, row)
        self.assertEqual(falls, tablereference.most_falls(n, tables))
        self.assertEqual(unlesses(net), blocks_needed(falls))
        starts = any(table % 2 == 1 for table in tables)
        self.assertEqual(("go",) in net, starts)
        return net

    def assert_each_go(self, n, tables):
        net = self.assert_net(n, tables, True)
        if any(table % 2 == 1 for table in tables):
            self.assertRaises(CantBe, net_for, n, tables, False)
        else:
            self.assert_net(n, tables, False)
        return net

    def test_all_tables_of_one_and_two_ways(self):
        for n in (1, 2):
            for table in range(2 ** 2 ** n):
                self.assert_each_go(n, [table])

    def test_all_of_three_ways(self):
        for table in range(256):
            self.assert_each_go(3, [table])

    def test_several_small_tables(self):
        for many in (2, 3):
            for tables in itertools.product(range(4), repeat=many):
                self.assert_each_go(1, list(tables))
        for tables in itertools.product(range(16), repeat=2):
            self.assert_each_go(2, list(tables))

    def test_many(self):
        chance = random.Random(1)
        for n in (2, 3, 4):
            for _ in range(80):
                tables = tablereference.random_tables(chance, n)
                self.assert_each_go(n, tables)
                self.assert_each_go(n, [table // 2 * 2 for table in tables])

    def test_each_number_of_unlesses(self):
        even, odd = tablereference.level_table(4, (0, 2, 4)), tablereference.level_table(4, (1, 3))
        told = [
            ([tablereference.level_table(4, (2, 3, 4))], 0), ([tablereference.level_table(4, (1,))], 1), ([odd], 2), ([even], 2),
            ([tablereference.level_table(4, (0, 2))], 2), ([even, odd], 3), ([odd, even, 1], 3), ([even - 1, odd], 2),
        ]
        for tables, many in told:
            self.assertEqual(unlesses(self.assert_each_go(4, tables)), many)

    def test_many_falls(self):
        chance = random.Random(2)
        for n in (3, 4):
            even, odd = tablereference.level_table(n, (0, 2, 4)), tablereference.level_table(n, (1, 3))
            for _ in range(40):
                other = chance.randrange(2 ** 2 ** n)
                self.assert_each_go(n, [even, odd, other])
                self.assert_each_go(n, [odd, other, even - 1])
                self.assert_each_go(n, [other, even & other, odd & ~other])

    def test_nought_and_all(self):
        for n in range(1, 5):
            full = 2 ** 2 ** n - 1
            for tables in ([0], [full], [0, 0, 0], [full, 0], [0, full, full], [full - 1], [full - 1, 0], [1], [1, full - 1, 0]):
                self.assert_each_go(n, tables)
            self.assertEqual(net_for(n, [0, 0], False)[1], [None, None])

    def test_the_same_table_twice(self):
        for table in (0b01101001, 0b10010110, 0b11101000, 0b00000010):
            one = self.assert_each_go(3, [table])
            self.assertEqual(unlesses(self.assert_each_go(3, [table, table])), unlesses(one))
            self.assert_each_go(3, [table, 0, table])

    def test_no_net_has_fewer(self):
        # All small nets: as many unlesses as the falls of what their nodes tell ask for.
        chance = random.Random(3)
        for _ in range(300):
            net = netreference.random_net(chance, 10)
            tables = chance.sample(tables_of(net, 3), min(3, len(net)))
            self.assertGreaterEqual(unlesses(net), blocks_needed(tablereference.most_falls(3, tables)))
            self.assertLessEqual(unlesses(net_for(3, tables, True)[0]), unlesses(net))

    def test_by_right_times(self):
        chance = random.Random(4)
        for n in (2, 3, 4):
            for _ in range(8):
                tables = tablereference.random_tables(chance, n)
                net, outs, _ = net_for(n, tables, True)
                times, lates = right_times(net)
                made, numbers = put_in(net, lates)
                for choice in range(2 ** n):
                    told = net_beats(made, [0 if choice // 2 ** k % 2 else None for k in range(n)])
                    for table, out in zip(tables, outs):
                        if out is not None:
                            so = tablereference.is_so(table, choice)
                            self.assertEqual(told[numbers[out]], times[out] if so else None)


class TestRefused(unittest.TestCase):
    def test_no_number_first(self):
        for n in tablereference.NO_NUMBERS + [thing for thing in reference.OTHER_THINGS if thing not in (1, True)]:
            with self.subTest(n=n):
                for tables in ([0], [1], [], None, [-1]):
                    self.assertRaises(NoNumber, net_for, n, tables, True)
                    self.assertRaises(NoNumber, net_for, n, tables, False)

    def test_no_tables_then(self):
        wrong = tablereference.NO_TABLES + [[1, 16], [1, True], [1, 1, 1, 1]]
        for tables in wrong + [thing for thing in reference.OTHER_THINGS if thing not in ([0, 0], [0, 0, 0])]:
            with self.subTest(tables=tables):
                self.assertRaises(NoTables, net_for, 2, tables, True)
                self.assertRaises(NoTables, net_for, 2, tables, False)

    def test_cant_be(self):
        for n in range(1, 5):
            full = 2 ** 2 ** n - 1
            for tables in ([1], [full], [0, 1], [2, full, 0], [0, 0, 3]):
                self.assertRaises(CantBe, net_for, n, tables, False)
                self.assertEqual(len(net_for(n, tables, True)), 3)


class TestOnesOwn(unittest.TestCase):
    def test_ones_own(self):
        tables = [0b01101001, 0b10010110, 0b01010100]
        before = list(tables)
        told = net_for(3, tables, True)
        expected = copy.deepcopy(told)
        for part in told:
            part.clear()
        self.assertEqual(net_for(3, tables, True), expected)
        self.assertEqual(tables, before)


if __name__ == "__main__":
    unittest.main()
