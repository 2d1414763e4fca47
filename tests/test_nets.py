import copy
import random
import unittest

from fallstones.errors import NoNet
from fallstones.nets import are_arrivals, is_net
from tests import netreference, reference


class TestIsNet(unittest.TestCase):
    def test_each_sort_of_node(self):
        for net in [
            [("go",)], [("go",), ("go",)], [("in", 0), ("in", 0)], [("in", 0), ("or", 0, 0)], [("go",), ("both", 0, 0)],
            [("in", 0), ("unless", 0, 0)], [("in", 0), ("late", 0, 0)], [("in", 0), ("late", 0, 10 ** 29)],
            [("in", 0), ("late", 0, 10 ** 30 - 1)], [("in", 3), ("in", 1), ("or", 0, 1), ("or", 1, 0), ("unless", 3, 2)],
            [("in", 0), ("in", 1), ("both", 1, 1), ("late", 2, 7), ("go",), ("unless", 4, 0), ("or", 5, 3)],
        ] + [[("in", k)] for k in range(6)]:
            with self.subTest(net=net):
                self.assertIs(is_net(net), True)

    def test_no_nets(self):
        for thing in netreference.NO_NETS + reference.OTHER_THINGS:
            with self.subTest(thing=thing):
                self.assertIs(is_net(thing), False)

    def test_parts_are_earlier_nodes(self):
        for word in ("or", "both", "unless"):
            for at in range(1, 4):
                for i in range(-1, 6):
                    for j in range(-1, 6):
                        net = [("go",)] * at + [(word, i, j)] + [("go",)]
                        self.assertIs(is_net(net), 0 <= i < at and 0 <= j < at)
        for at in range(1, 4):
            for i in range(-1, 6):
                self.assertIs(is_net([("go",)] * at + [("late", i, 3), ("go",)]), 0 <= i < at)

    def test_a_wrong_node_anywhere(self):
        net = [("in", 0), ("in", 1), ("or", 0, 1), ("late", 2, 4)]
        for at in range(5):
            for node in (None, ("or", 9, 9), ("in", 6), ["go"]):
                self.assertIs(is_net(net[:at] + [node] + net[at:]), False)

    def test_a_thousand_nodes(self):
        net = [("in", 0)] + [("late", at, 1) for at in range(999)]
        self.assertIs(is_net(net), True)
        self.assertIs(is_net(net[:-1] + [("late", 999, 1)]), False)

    def test_random_nets(self):
        chance = random.Random(1)
        for _ in range(100):
            self.assertIs(is_net(netreference.random_net(chance)), True)


class TestAreArrivals(unittest.TestCase):
    def test_how_many(self):
        nets = [(0, [("go",)]), (1, [("in", 0)]), (3, [("in", 2), ("in", 0)]), (6, [("in", 5), ("go",)]),
                (4, [("in", 1), ("in", 3), ("or", 0, 1), ("late", 2, 9), ("in", 2)])]
        for needed, net in nets:
            for many in range(9):
                with self.subTest(net=net, many=many):
                    let = max(1, needed) <= many <= 6
                    self.assertIs(are_arrivals(net, [0] * many), let)
                    self.assertIs(are_arrivals(net, [None] * many), let)

    def test_things(self):
        net = [("in", 0)]
        for thing in [[0], [None], [10 ** 30 - 1], [3, None, 0], [None, 5]]:
            self.assertIs(are_arrivals(net, thing), True)
        wrong = [[-1], [True], [False], ["0"], [""], [[]], [()], [0, -1], [None, True], [0, "1"], (0,), (None,), {0: 0},
                 "0", b"0", 0, None, True, [reference.Plain()], [0, 0, 0, 0, 0, 0, 0], [None, None, None, None, None, -1]]
        for thing in wrong + reference.OTHER_THINGS:
            if thing not in ([0, 0], [0, 0, 0]):
                with self.subTest(thing=thing):
                    self.assertIs(are_arrivals(net, thing), False)

    def test_no_net(self):
        for net in netreference.NO_NETS + reference.OTHER_THINGS:
            with self.subTest(net=net):
                for thing in ([0], [], None, [True]):
                    self.assertRaises(NoNet, are_arrivals, net, thing)

    def test_handed_in_stays(self):
        net, arrivals = [("in", 0), ("late", 0, 2)], [3, None]
        before = copy.deepcopy((net, arrivals))
        are_arrivals(net, arrivals)
        is_net(net)
        self.assertEqual((net, arrivals), before)


if __name__ == "__main__":
    unittest.main()
