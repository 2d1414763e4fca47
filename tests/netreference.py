"""What nets tell, told a second time: by going back from each node to what it comes from."""

import itertools
from functools import lru_cache

WORDS = ("in", "go", "or", "both", "unless", "late")


def beats(net, arrivals):
    endless = float("inf")

    @lru_cache(maxsize=None)
    def beat(at):
        word, *rest = net[at]
        if word == "in":
            return endless if arrivals[rest[0]] is None else arrivals[rest[0]]
        if word == "go":
            return 0
        if word == "late":
            return beat(rest[0]) + rest[1]
        one, other = beat(rest[0]), beat(rest[1])
        return {"or": min(one, other), "both": max(one, other), "unless": one if one < other else endless}[word]

    told = [beat(at) for at in range(len(net))]
    return [None if beat == endless else beat for beat in told]


def is_so(net, at, choice):
    word, *rest = net[at]
    if word == "in":
        return choice // 2 ** rest[0] % 2 == 1
    if word == "go":
        return True
    one = is_so(net, rest[0], choice)
    if word == "late":
        return one
    other = is_so(net, rest[1], choice)
    return {"or": one or other, "both": one and other, "unless": one and not other}[word]


def parts(node):
    """The numbers of a node's parts, in order."""
    return list({"in": (), "go": (), "late": node[1:2]}.get(node[0], node[1:]))


def times(net, lates):
    """The times by lates, or None where these are not right."""

    def come(at, part):
        return time(parts(net[at])[part]) + lates[at][part]

    def time(at):
        word = net[at][0]
        if word in ("in", "go"):
            return 0
        if word == "late":
            return come(at, 0) + net[at][2]
        return max(come(at, 0), come(at, 1)) if word == "both" else come(at, 0)

    for at, node in enumerate(net):
        if node[0] == "or" and come(at, 0) != come(at, 1):
            return None
        if node[0] == "unless" and come(at, 0) <= come(at, 1):
            return None
    return [time(at) for at in range(len(net))]


def lates_up_to(net, most):
    """All lates of a net with no number above the told one."""
    rows = [list(itertools.product(range(most + 1), repeat=len(parts(node)))) for node in net]
    return [list(lates) for lates in itertools.product(*rows)]


def random_lates(chance, net, most=3):
    return [tuple(chance.randint(0, most) for _ in parts(node)) for node in net]


def way_length(net, way):
    return sum(net[at][2] if net[at][0] == "late" else int(net[at][0] == "unless" and part == 1) for at, part in way)


def pushes_by(ins, goes, arrivals):
    """The pushes by which arrivals come to a laid net."""
    told = [(place, arrivals[k]) for k, place in ins.items() if arrivals[k] is not None]
    return told + [(place, 0) for place in goes]


def random_net(chance, most=9, ways=3, words=WORDS, most_late=4):
    net = []
    for at in range(chance.randint(1, most)):
        word = chance.choice(words) if at else chance.choice([word for word in words if word in ("in", "go")])
        if word == "in":
            net.append(("in", chance.randrange(ways)))
        elif word == "go":
            net.append(("go",))
        elif word == "late":
            net.append(("late", chance.randrange(at), chance.randint(0, most_late)))
        else:
            net.append((word, chance.randrange(at), chance.randrange(at)))
    return net


def random_arrivals(chance, ways=3, last=8):
    return [None if chance.random() < 0.25 else chance.randint(0, last) for _ in range(ways)]


NO_NETS = [
    [], (("go",),), [["go"]], ["go"], [("go", 0)], [("go",), ()], [("stop",)], [("",)], [(None,)], [("in",)], [("in", -1)],
    [("in", 6)], [("in", 7)], [("in", True)], [("in", False)], [("in", "0")], [("in", None)], [("in", 0, 0)], [("in", [])],
    [("In", 0)], [(0, "in")], [("or", 0, 0)], [("in", 0), ("or", 0)], [("in", 0), ("or", 0, 1)], [("in", 0), ("or", 1, 0)],
    [("in", 0), ("or", 0, 2), ("go",)], [("in", 0), ("or", -1, 0)], [("in", 0), ("or", 0, -1)], [("in", 0), ("or", 0, True)],
    [("in", 0), ("in", 1), ("or", True, 0)], [("in", 0), ("or", False, 0)], [("in", 0), ("both", 0, 0, 0)],
    [("in", 0), ("both", 0, 1)], [("in", 0), ("both", 1, 0)], [("in", 0), ("both", 0)], [("in", 0), ("unless", 0, 1)],
    [("in", 0), ("unless", 1, 0)], [("in", 0), ("unless", 0)], [("in", 0), ("unless", 0, 0, 0)], [("late", 0, 1)],
    [("in", 0), ("late", 1, 1)], [("in", 0), ("late", 2, 1), ("go",)], [("in", 0), ("late", 0)], [("in", 0), ("late", 0, -1)],
    [("in", 0), ("late", 0, True)], [("in", 0), ("late", 0, False)], [("in", 0), ("late", 0, None)],
    [("in", 0), ("late", 0, "1")], [("in", 0), ("late", -1, 1)], [("in", 0), ("late", True, 1), ("go",)],
    [("in", 0), ("late", 0, 1, 1)], [("in", 0), ("late", "0", 1)], [("in", 0), ("or", "0", 0)], [("in", 0), ("or", [], 0)],
    [("in", 0), ("or", 0, {})], [("in", 0), None], [("in", 0), 0], [("in", 0), "go"], [("in", 0), ["go"]], [(("go",),)],
    [(b"go",)], [([],)], [({},)], {0: ("go",)}, "go", ("go",), [[("go",)]], [("go",), ("and", 0, 0)], [("go",), ("not", 0)],
]
