import unittest

from fallstones.errors import NoNumber
from fallstones.floors import Floor
from fallstones.floortexts import floor_text
from fallstones.light import far, is_light
from fallstones.runs import run
from fallstones.timers import timer
from tests import reference

EDGES = [1, 2, 9998, 9999, 10000, 10001, 19997, 19998, 19999, 29997, 29998, 499950, 499951, 499999, 500000]


class TestTimer(unittest.TestCase):
    def assert_timer(self, k):
        told = timer(k)
        self.assertIsInstance(told, tuple)
        floor, first, last = told
        self.assertIsInstance(floor, Floor)
        self.assertIs(is_light(floor), True)
        self.assertIn(first, floor.places())
        self.assertIn(last, floor.places())
        self.assertEqual(run(floor, [(first, 0)])[0][last], k)
        self.assertEqual(far(floor, first, last), k)
        # k / 9,999, rounded up, told without a fraction.
        self.assertEqual(len(floor.places()), 1 - (-k // 9999))

    def test_edges(self):
        for k in EDGES:
            with self.subTest(k):
                self.assert_timer(k)

    def test_many(self):
        for k in list(range(1, 60)) + list(range(61, 500000, 7919)):
            with self.subTest(k):
                self.assert_timer(k)

    def test_how_many_places(self):
        told = [(1, 2), (2, 2), (9999, 2), (10000, 3), (10001, 3), (19998, 3), (19999, 4), (500000, 52)]
        for k, many in told:
            with self.subTest(k):
                self.assertEqual(len(timer(k)[0].places()), many)

    def test_a_later_push(self):
        floor, first, last = timer(12345)
        self.assertEqual(run(floor, [(first, 55)])[0][last], 12400)

    def test_refused(self):
        wrong = [0, 500001, -1, -500000, 10 ** 30, True, False, "1", "", None, [1], (1,), {1: 1}, b"1"]
        wrong += [thing for thing in reference.OTHER_THINGS if not isinstance(thing, int)]
        for thing in wrong:
            with self.subTest(thing=thing):
                self.assertRaises(NoNumber, timer, thing)

    def test_asked_again(self):
        for k in EDGES:
            floor, first, last = timer(k)
            floor.stones().clear()
            floor.places().clear()
            again = timer(k)
            self.assertEqual((floor_text(floor), first, last), (floor_text(again[0]), again[1], again[2]))


if __name__ == "__main__":
    unittest.main()
