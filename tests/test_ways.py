import copy
import random
import unittest

from fallstones.errors import NoChoice, NoPlace, NoWays
from fallstones.floors import Floor
from fallstones.floortexts import read_floor
from fallstones.ways import answers, are_ways, first_race, pushes_in
from tests import reference

ROW = read_floor("ew1 ew1 ew1 ew1 ew1 ew1 x1\n")
A, B, C, D, E, F, G, H = ROW.places()
# Two rows come to a block from its in side and its stop side.
BLOCK = read_floor("E1 Es1 E1\n. N1 .\n")
IN, STONE, OUT, STOPPER = (0, 0, 0), (1, 0, 0), (2, 0, 0), (1, 1, 0)

NO_WAYS = [
    ([], []), ([(A, 0)], []), (), ([],), ([], [(A, 0)], []), [[], [(A, 0)]], ([], ((A, 0),)), ((), [(A, 0)]),
    ([(A, 0)], [(A, 0)], [(A, 0)]), ([], [(A, 0), (A, 0)]), ([], [(A, 0), (A, 5)]), ([], [(A, 0), (B, 0), (A, 1)]),
    ([], [(place, 0) for place in (A, B, C, D, E, F, G)]), ([], [[A, 0]]), ([[A, 0]], [(A, 0)]), ([], [(A, -1)]),
    ([(A, -1)], [(A, 0)]), ([], [(A, True)]), ([(A, False)], [(A, 0)]), ([], [(A, "0")]), ([], [(A, None)]),
    ([], [((9, 9, 9), 0)]), ([((0, 0, 1), 0)], [(A, 0)]), ([], [A]), ([], [(A,)]), ([], [(A, 0, 0)]), (None, [(A, 0)]),
    ([], None), ([], "a"), ("", [(A, 0)]), ([], {A: 0}), ({}, [(A, 0)]), ([None], [(A, 0)]), ([], [None]),
    ([], [([], 0)]), ([], [({}, 0), ({}, 0)]), ([], [((0, 0, False), 0)]), {0: [], 1: [(A, 0)]}, "ab", b"ab",
]


class TestAreWays(unittest.TestCase):
    def test_ways(self):
        let = [
            ([], [(A, 0)]), ([(A, 0)], [(A, 0)]), ([(A, 0), (A, 7), (B, 1)], [(A, 3), (B, 10 ** 29)]), ([], [(G, 0), (H, 0)]),
        ]
        for many in range(1, 7):
            let.append(([(C, 1)], [(place, many) for place in (A, B, C, D, E, H)[:many]]))
        for thing in let:
            with self.subTest(thing=thing):
                self.assertIs(are_ways(ROW, thing), True)

    def test_no_ways(self):
        for thing in NO_WAYS + reference.OTHER_THINGS:
            with self.subTest(thing=thing):
                self.assertIs(are_ways(ROW, thing), False)

    def test_places_of_this_very_floor(self):
        self.assertIs(are_ways(Floor(1, 1, {}), ([], [(A, 0)])), False)
        self.assertIs(are_ways(read_floor("ew1\n"), ([], [(A, 0)])), True)
        self.assertIs(are_ways(read_floor("ew1\n"), ([], [(B, 0)])), False)


class TestRefused(unittest.TestCase):
    def test_no_ways_ahead_of_all(self):
        for thing in NO_WAYS + reference.OTHER_THINGS:
            with self.subTest(thing=thing):
                self.assertRaises(NoWays, first_race, ROW, thing)
                for choice in (0, 1, -1, 64, True, "0", None):
                    self.assertRaises(NoWays, pushes_in, ROW, thing, choice)
                for places in ([], [A], [(9, 9, 9)], [None], None):
                    self.assertRaises(NoWays, answers, ROW, thing, places)

    def test_no_choice(self):
        others = [thing for thing in reference.OTHER_THINGS if not isinstance(thing, int)]
        for many in range(1, 7):
            ways = ([(A, 0)], [(place, 0) for place in (A, B, C, D, E, F)[:many]])
            for choice in [-1, 2 ** many, 2 ** many + 1, 10 ** 30, True, False, "0", "1", None, [0], (0,)] + others:
                with self.subTest(many=many, choice=choice):
                    self.assertRaises(NoChoice, pushes_in, ROW, ways, choice)

    def test_no_place(self):
        ways = ([], [(A, 0)])
        for thing in [(9, 9, 9), (0, 0, 1), (0, 1, 0), (0, 0), [0, 0, 0], (False, 0, 0)] + reference.OTHER_THINGS:
            with self.subTest(thing=thing):
                for places in ([thing], [A, thing], [thing, A]):
                    self.assertRaises(NoPlace, answers, ROW, ways, places)

    def test_no_list_of_places(self):
        for thing in [None, (A,), {A: 0}, "a", 0, True]:
            self.assertRaises(NoPlace, answers, ROW, ([], [(A, 0)]), thing)


class TestPushesIn(unittest.TestCase):
    def test_by_hand(self):
        ways = ([(D, 9), (A, 1)], [(C, 5), (A, 0), (B, 2)])
        self.assertEqual([pushes_in(ROW, ways, choice)[2:] for choice in range(8)], [
            [], [(C, 5)], [(A, 0)], [(C, 5), (A, 0)], [(B, 2)], [(C, 5), (B, 2)], [(A, 0), (B, 2)], [(C, 5), (A, 0), (B, 2)],
        ])
        for choice in range(8):
            self.assertEqual(pushes_in(ROW, ways, choice)[:2], [(D, 9), (A, 1)])

    def test_no_starts(self):
        self.assertEqual(pushes_in(ROW, ([], [(A, 0)]), 0), [])
        self.assertEqual(pushes_in(ROW, ([], [(A, 0)]), 1), [(A, 0)])

    def test_each_choice(self):
        for many in range(1, 7):
            ins = [(place, 10 - k) for k, place in enumerate((F, A, B, E, C, D)[:many])]
            for choice in range(2 ** many):
                expected = [push for k, push in enumerate(ins) if choice // 2 ** k % 2 == 1]
                self.assertEqual(pushes_in(ROW, ([(A, 3)], ins), choice), [(A, 3)] + expected)


class TestAnswers(unittest.TestCase):
    def test_by_hand(self):
        ways = ([], [(IN, 0), (STOPPER, 0)])
        self.assertEqual(answers(BLOCK, ways, [OUT, IN]), [(None, None), (2, 0), (None, None), (None, 0)])
        ways = ([(IN, 5)], [(STOPPER, 0), (IN, 0)])
        self.assertEqual(answers(BLOCK, ways, [OUT]), [(7,), (None,), (2,), (None,)])

    def test_of_no_places_and_of_a_place_twice(self):
        ways = ([], [(A, 0), (B, 0)])
        self.assertEqual(answers(ROW, ways, []), [(), (), (), ()])
        self.assertEqual(answers(ROW, ways, [C, A, C]), [(None, None, None), (2, 0, 2), (1, 1, 1), (1, 0, 1)])

    def test_kinds_of_values(self):
        told = answers(ROW, ([], [(A, 0)]), [A])
        self.assertIsInstance(told, list)
        self.assertTrue(all(isinstance(answer, tuple) for answer in told))

    def test_against_reference(self):
        chance = random.Random(1)
        for _ in range(60):
            floor, stones, ways = random_ways(chance)
            if ways is None:
                continue
            places = [chance.choice(floor.places()) for _ in range(4)]
            expected = []
            for choice in range(2 ** len(ways[1])):
                falls = reference.run(stones, chosen(ways, choice))[0]
                expected.append(tuple(falls.get(place) for place in places))
            self.assertEqual(answers(floor, ways, places), expected)

    def test_six_ways_over_a_whole_floor(self):
        floor = Floor(60, 20, {(x, y): ("nesw", 3) for x in range(60) for y in range(20)})
        ins = [((x, 0, 0), 10 ** 29) for x in range(6)]
        told = answers(floor, ([], ins), [(59, 19, 0)])
        self.assertEqual(len(told), 64)
        for choice in range(1, 64):
            self.assertEqual(told[choice], (10 ** 29 + 3 * (19 + 59 - choice.bit_length() + 1),))


def chosen(ways, choice):
    return ways[0] + [push for k, push in enumerate(ways[1]) if choice // 2 ** k % 2 == 1]


def random_ways(chance, kinds=reference.KINDS + ["nesw"] * 60 + [*reference.BLOCKS] * 3):
    wide, high = chance.randint(1, 5), chance.randint(1, 4)
    stones = reference.random_stones(chance, wide, high, kinds, chance.randint(1, 2), 0.05)
    alls = reference.places(stones)
    if not alls:
        return None, None, None
    unlike = chance.sample(alls, min(len(alls), chance.randint(1, 4)))
    ins = [(place, chance.randint(0, 3)) for place in unlike]
    return Floor(wide, high, stones), stones, (reference.random_pushes(chance, stones, 2, 3), ins)


class TestFirstRace(unittest.TestCase):
    def test_by_hand(self):
        self.assertEqual(first_race(BLOCK, ([], [(IN, 0), (STOPPER, 0)])), (3, 1, STONE))
        self.assertEqual(first_race(BLOCK, ([(IN, 4)], [(OUT, 0), (STOPPER, 4)])), (2, 5, STONE))
        self.assertEqual(first_race(BLOCK, ([(STOPPER, 7), (IN, 7)], [(OUT, 0)])), (0, 8, STONE))
        self.assertIsNone(first_race(BLOCK, ([], [(IN, 0), (STOPPER, 1)])))
        self.assertIsNone(first_race(ROW, ([(A, 0)], [(A, 0)])))

    def test_the_first_choice_then_beat_then_place(self):
        # Three blocks side by side; the further to the east, the earlier they race.
        floor = read_floor("S1 . S1 . S1\nSe1 W1 Se1 W1 Se1\n")
        pushes = {x: [((2 * x, 0, 0), beat), ((2 * x + 1, 1, 0), beat)] for x, beat in ((0, 5), (1, 3))}
        both = pushes[0] + pushes[1]
        self.assertEqual(first_race(floor, (both, [((4, 0, 0), 0)])), (0, 4, (2, 1, 0)))
        self.assertEqual(first_race(floor, (pushes[1], pushes[0][:1])), (0, 4, (2, 1, 0)))
        self.assertEqual(first_race(floor, ([pushes[0][0], pushes[1][0]], [pushes[0][1], pushes[1][1]])), (1, 6, (0, 1, 0)))
        same = [(place, 2) for place, beat in both]
        self.assertEqual(first_race(floor, (same, [((4, 0, 0), 0)])), (0, 3, (0, 1, 0)))

    def test_against_reference(self):
        chance = random.Random(2)
        raced = 0
        for _ in range(150):
            floor, stones, ways = random_ways(chance)
            if ways is None:
                continue
            told = [
                (choice, beat, place)
                for choice in range(2 ** len(ways[1]))
                for beat, place in reference.run(stones, chosen(ways, choice))[2]
            ]
            self.assertEqual(first_race(floor, ways), min(told, default=None))
            raced += bool(told)
        self.assertGreater(raced, 10)


class TestOnesOwn(unittest.TestCase):
    WAYS = ([(IN, 0)], [(STOPPER, 0), (IN, 3)])

    def test_asked_again(self):
        for ask in (lambda: pushes_in(BLOCK, self.WAYS, 0), lambda: pushes_in(BLOCK, self.WAYS, 3),
                    lambda: answers(BLOCK, self.WAYS, [OUT])):
            before = copy.deepcopy(ask())
            ask().clear()
            ask().append(None)
            self.assertEqual(ask(), before)
        self.assertEqual(self.WAYS, ([(IN, 0)], [(STOPPER, 0), (IN, 3)]))

    def test_handed_in_stays(self):
        ways, places = copy.deepcopy(self.WAYS), [OUT, IN]
        for choice in range(4):
            pushes_in(BLOCK, ways, choice)
        answers(BLOCK, ways, places)
        first_race(BLOCK, ways)
        are_ways(BLOCK, ways)
        self.assertEqual((ways, places), (self.WAYS, [OUT, IN]))

    def test_not_kept(self):
        ways, places = copy.deepcopy(self.WAYS), [OUT]
        told = answers(BLOCK, ways, places)
        pushes = pushes_in(BLOCK, ways, 1)
        ways[0].clear()
        ways[1].clear()
        places.clear()
        self.assertEqual(told, [(2,), (None,), (2,), (None,)])
        self.assertEqual(pushes, [(IN, 0), (STOPPER, 0)])


if __name__ == "__main__":
    unittest.main()
