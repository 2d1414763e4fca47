import copy
import itertools
import random
import unittest

from fallstones.errors import NoNumber, NoRow, NoTables
from fallstones.rising import falls_on, most_falls
from tests import reference, tablereference


class TestFallsOn(unittest.TestCase):
    def test_by_hand(self):
        # So in the choices 0 and 3.
        self.assertEqual(falls_on(2, [0b1001], [0, 1, 3]), 1)
        self.assertEqual(falls_on(2, [0b1001], [0, 3]), 0)
        self.assertEqual(falls_on(2, [0b1001], [1, 3]), 0)
        self.assertEqual(falls_on(2, [0b0010], [0, 1, 3]), 1)
        self.assertEqual(falls_on(2, [0b0010], [0, 2, 3]), 0)
        self.assertEqual(falls_on(1, [1], [0, 1]), 1)
        self.assertEqual(falls_on(1, [2], [0, 1]), 0)

    def test_rows_of_one_choice(self):
        for n in range(1, 5):
            for choice in range(2 ** n):
                self.assertEqual(falls_on(n, [2 ** 2 ** n - 1, 1, 0], [choice]), 0)

    def test_a_step_counts_once(self):
        self.assertEqual(falls_on(1, [1, 1, 1], [0, 1]), 1)
        self.assertEqual(falls_on(2, [0b0001, 0b0011, 0b0001], [0, 1, 3]), 2)
        self.assertEqual(falls_on(2, [0b0001, 0b0010], [0, 1, 3]), 2)
        # One table falls where another one rises.
        self.assertEqual(falls_on(1, [1, 2], [0, 1]), 1)

    def test_each_length_of_the_longest(self):
        for n in range(1, 5):
            row = [2 ** k - 1 for k in range(n + 1)]
            even = tablereference.level_table(n, (0, 2, 4))
            odd = tablereference.level_table(n, (1, 3))
            self.assertEqual(falls_on(n, [even, odd], row), n)
            self.assertEqual(falls_on(n, [even], row), (n + 1) // 2)
            self.assertEqual(falls_on(n, [odd], row), n // 2)

    def test_all_rows(self):
        chance = random.Random(1)
        for n in range(1, 5):
            for _ in range(12):
                tables = tablereference.random_tables(chance, n)
                for row in tablereference.rising_rows(n):
                    self.assertEqual(falls_on(n, tables, list(row)), tablereference.falls(tables, row))

    def test_how_many_rising_rows(self):
        self.assertEqual([len(tablereference.rising_rows(n)) for n in range(1, 5)], [3, 11, 51, 299])


class TestMostFalls(unittest.TestCase):
    def assert_most(self, n, tables):
        told = most_falls(n, tables)
        self.assertIsInstance(told, tuple)
        falls, row = told
        self.assertIsInstance(row, list)
        self.assertIn(tuple(row), tablereference.rising_rows(n))
        self.assertEqual(falls_on(n, tables, row), falls)
        self.assertEqual(falls, tablereference.most_falls(n, tables))

    def test_one_table_of_up_to_two_ways(self):
        for n in (1, 2):
            for table in range(2 ** 2 ** n):
                self.assert_most(n, [table])

    def test_several_small_tables(self):
        for many in (2, 3):
            for tables in itertools.product(range(4), repeat=many):
                self.assert_most(1, list(tables))
        for tables in itertools.product(range(16), repeat=2):
            self.assert_most(2, list(tables))

    def test_all_of_three_ways(self):
        for table in range(256):
            self.assert_most(3, [table])

    def test_many(self):
        chance = random.Random(2)
        for n in (2, 3, 4):
            for _ in range(60):
                self.assert_most(n, tablereference.random_tables(chance, n))

    def test_as_many_as_can_be(self):
        for n in range(1, 5):
            even = tablereference.level_table(n, (0, 2, 4))
            odd = tablereference.level_table(n, (1, 3))
            self.assertEqual(most_falls(n, [even, odd])[0], n)
            self.assertEqual(most_falls(n, [odd, odd, even])[0], n)
            self.assertEqual(most_falls(n, [odd])[0], n // 2)
            self.assertEqual(most_falls(n, [0])[0], 0)
            self.assertEqual(most_falls(n, [2 ** 2 ** n - 1])[0], 0)
            self.assertEqual(most_falls(n, [1])[0], 1)


class TestRefused(unittest.TestCase):
    def test_no_number_first(self):
        for n in tablereference.NO_NUMBERS + [thing for thing in reference.OTHER_THINGS if thing not in (1, True)]:
            with self.subTest(n=n):
                for tables in ([0], [], None, [-1]):
                    self.assertRaises(NoNumber, most_falls, n, tables)
                    for row in ([0], [], None):
                        self.assertRaises(NoNumber, falls_on, n, tables, row)

    def test_no_tables_then(self):
        for tables in tablereference.NO_TABLES + [thing for thing in reference.OTHER_THINGS if thing not in ([0, 0], [0, 0, 0])]:
            with self.subTest(tables=tables):
                self.assertRaises(NoTables, most_falls, 2, tables)
                for row in ([0], [0, 1], [], None, [True], [0, 0]):
                    self.assertRaises(NoTables, falls_on, 2, tables, row)

    def test_greatest_tables(self):
        for n in range(1, 5):
            self.assertEqual(most_falls(n, [2 ** 2 ** n - 1])[0], 0)
            self.assertRaises(NoTables, most_falls, n, [2 ** 2 ** n])
            self.assertRaises(NoTables, falls_on, n, [0, 2 ** 2 ** n], [0])

    def test_no_row(self):
        wrong = [
            [], [0, 0], [1, 1], [0, 1, 1], [1, 0], [1, 2], [0, 1, 2], [3, 1], [0, 3, 3], [1, 3, 2], [4], [0, 4], [-1], [-1, 0],
            [True], [False], [0, True], [False, 1], ["0"], [""], [None], [0, None], [[]], [()], (0,), (0, 1), {0: 1}, {0}, "01",
            None, True, 0, [[0]], [b"0"], [10 ** 30],
        ]
        for row in wrong + reference.OTHER_THINGS:
            with self.subTest(row=row):
                self.assertRaises(NoRow, falls_on, 2, [0b0110], row)

    def test_all_rows_of_two_ways(self):
        for many in range(5):
            for row in itertools.product(range(-1, 5), repeat=many):
                if row in tablereference.rising_rows(2):
                    falls_on(2, [5], list(row))
                else:
                    self.assertRaises(NoRow, falls_on, 2, [5], list(row))


class TestOnesOwn(unittest.TestCase):
    def test_ones_own(self):
        tables, row = [0b0110, 0b0001], [0, 1, 3]
        before = copy.deepcopy((tables, row))
        told = most_falls(2, tables)
        expected = copy.deepcopy(told)
        told[1].clear()
        most_falls(2, tables)[1].append(9)
        self.assertEqual(most_falls(2, tables), expected)
        self.assertEqual(falls_on(2, tables, row), 2)
        self.assertEqual((tables, row), before)


if __name__ == "__main__":
    unittest.main()
