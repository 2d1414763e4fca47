import unittest

from fallstones.errors import NoPush
from fallstones.floortexts import read_floor
from fallstones.pushes import are_pushes
from fallstones.races import races, run_by
from fallstones.runs import keeps_rules, run
from tests import reference

FLOOR = read_floor("ew1 x2 Es3\n. . N1\n")
AT = (0, 0, 0)

RIGHT = [
    [],
    [(AT, 0)],
    [(AT, 0), (AT, 0), (AT, 5)],
    [((1, 0, 0), 1), ((1, 0, 1), 1), ((2, 0, 0), 1), ((2, 1, 0), 1)],
    [(AT, 10 ** 29), (AT, 10 ** 30 - 1)],
    [((2, 1, 0), 7), (AT, 3)],
]

WRONG_PUSHES = [
    [AT, 0], (AT,), (AT, 0, 0), (), AT, ([0, 0, 0], 0), ((0, 0), 0), ((0, 0, 0, 0), 0), ((0, 0, 1), 0), ((1, 0, 2), 0),
    ((0, 1, 0), 0), ((3, 0, 0), 0), ((-1, 0, 0), 0), ((0, 0, False), 0), ((False, 0, 0), 0), ((True, 0, 0), 0), ("000", 0),
    (None, 0), (0, AT), (AT, -1), (AT, True), (AT, False), (AT, "0"), (AT, None), (AT, (0,)), (AT, [0]), (AT, AT), (AT, b"0"),
    None, True, 0, "", "0,0,0@5", [], {}, {AT: 0}, ((0, 0, []), 0), (AT, {}), (AT, -10 ** 29), reference.Plain(),
]
WRONG = (
    [[push] for push in WRONG_PUSHES]
    + [[(AT, 0), push] for push in WRONG_PUSHES]
    + [[push, (AT, 0)] for push in WRONG_PUSHES]
    + [((AT, 0),), (AT, 0), {AT: 0}, {(AT, 0): 1}, {(AT, 0)}, [[(AT, 0)]], [((AT, 0),)]]
    + [thing for thing in reference.OTHER_THINGS if thing != []]
)


class TestArePushes(unittest.TestCase):
    def test_what_are_pushes(self):
        for pushes in RIGHT:
            with self.subTest(pushes=pushes):
                self.assertIs(are_pushes(FLOOR, pushes), True)

    def test_what_are_none(self):
        for thing in WRONG:
            with self.subTest(thing=thing):
                self.assertIs(are_pushes(FLOOR, thing), False)

    def test_on_a_floor_without_stones(self):
        floor = read_floor(". .\n")
        self.assertIs(are_pushes(floor, []), True)
        self.assertIs(are_pushes(floor, [(AT, 0)]), False)
        self.assertEqual(run(floor, []), ({}, {}))
        self.assertRaises(NoPush, run, floor, [(AT, 0)])


class TestRefused(unittest.TestCase):
    def test_each_refuses_with_no_push(self):
        for thing in WRONG:
            with self.subTest(thing=thing):
                self.assertRaises(NoPush, run, FLOOR, thing)
                self.assertRaises(NoPush, races, FLOOR, thing)
                self.assertRaises(NoPush, keeps_rules, FLOOR, thing, {}, {})
                self.assertRaises(NoPush, keeps_rules, FLOOR, thing, None, [])
                for firsts in ([], [AT], [(9, 9, 9)], [None], None, [[]]):
                    self.assertRaises(NoPush, run_by, FLOOR, thing, firsts)

    def test_what_are_pushes_is_not_refused(self):
        for pushes in RIGHT:
            falls, stopped = run(FLOOR, pushes)
            self.assertIs(keeps_rules(FLOOR, pushes, falls, stopped), True)
            self.assertIsInstance(races(FLOOR, pushes), list)
            self.assertIsInstance(run_by(FLOOR, pushes, []), tuple)

    def test_what_is_handed_in_stays(self):
        for things in (RIGHT, WRONG):
            for thing in things:
                before = repr(thing)
                are_pushes(FLOOR, thing)
                for ask in (run, races, lambda floor, pushes: run_by(floor, pushes, [AT])):
                    try:
                        ask(FLOOR, thing)
                    except NoPush:
                        pass
                self.assertEqual(repr(thing), before)


if __name__ == "__main__":
    unittest.main()
