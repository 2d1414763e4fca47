"""The rules told a second time, as simply as can be, to hold the program against.

Nothing here is taken from the package: kinds are written out, and a run goes
through all beats one by one.
"""

OPPOSITE = {"n": "s", "e": "w", "s": "n", "w": "e"}
STEP = {"n": (0, -1), "e": (1, 0), "s": (0, 1), "w": (-1, 0)}

# kind: (in sides, out sides, stop side)
OPEN = {
    kind: (kind, kind, "")
    for kind in ["ne", "ns", "nw", "es", "ew", "sw", "nes", "new", "nsw", "esw", "nesw"]
}
ONE_WAY = {"N": ("s", "n", ""), "E": ("w", "e", ""), "S": ("n", "s", ""), "W": ("e", "w", "")}
BLOCKS = {
    "Ne": ("s", "n", "e"), "Nw": ("s", "n", "w"),
    "En": ("w", "e", "n"), "Es": ("w", "e", "s"),
    "Se": ("n", "s", "e"), "Sw": ("n", "s", "w"),
    "Wn": ("e", "w", "n"), "Ws": ("e", "w", "s"),
}
HEAVY = {
    "Nes": ("es", "n", ""), "New": ("ew", "n", ""), "Nsw": ("sw", "n", ""),
    "Ens": ("ns", "e", ""), "Enw": ("nw", "e", ""), "Esw": ("sw", "e", ""),
    "Sne": ("ne", "s", ""), "Snw": ("nw", "s", ""), "Sew": ("ew", "s", ""),
    "Wne": ("ne", "w", ""), "Wns": ("ns", "w", ""), "Wes": ("es", "w", ""),
}
SIDED = {**OPEN, **ONE_WAY, **BLOCKS, **HEAVY}
KINDS = [*SIDED, "x"]
LIGHT_KINDS = [*OPEN, *ONE_WAY, "x"]


class Plain:
    """Something that is nothing of what the program knows."""


# Things of all sorts, for what is promised "of anything"; none of them is a place, pushes or a floor's text.
OTHER_THINGS = [
    None, True, False, 0, 1, -1, 10 ** 40, "", "x", "ew1", "0,0,0", b"ew", (), (0,), (0, 0), (0, 0, 0, 0), [], [0, 0],
    [0, 0, 0], {}, {(0, 0): ("ew", 1)}, set(), frozenset(), range(3), Plain(), Plain, len, ("ew", 1), (None, None, None),
    ("0", "0", "0"), ([], [], []), ({}, {}, {}),
]


def sides(stones, place):
    """(in sides, out sides, stop side) of a place."""
    kind = stones[place[:2]][0]
    if kind == "x":
        return [("ew", "ew", ""), ("ns", "ns", "")][place[2]]
    return SIDED[kind]


def places(stones):
    return sorted((x, y, line) for x, y in stones for line in (0, 1) if line == 0 or stones[x, y][0] == "x")


def beats(stones, place):
    return stones[place[:2]][1]


def side_between(one, other):
    """The side of the one at which the other one's cell lies, or None."""
    for side, (east, south) in STEP.items():
        if (one[0] + east, one[1] + south) == other[:2]:
            return side
    return None


def knocks(stones, one, other):
    side = side_between(one, other)
    return side is not None and side in sides(stones, one)[1] and OPPOSITE[side] in sides(stones, other)[0]


def stops(stones, one, other):
    side = side_between(one, other)
    return side is not None and side in sides(stones, one)[1] and OPPOSITE[side] == sides(stones, other)[2]


def is_due(stones, pushes, falls, place, beat):
    if (place, beat) in pushes:
        return True
    comings = [falls[one] + beats(stones, one) for one in falls if knocks(stones, one, place)]
    if stones[place[:2]][0] in HEAVY:
        return len(comings) == 2 and max(comings) == beat
    return beat in comings


def is_stopped(stones, falls, place, beat):
    return any(falls[one] + beats(stones, one) == beat for one in falls if stops(stones, one, place))


def run(stones, pushes, firsts=()):
    """(falls, stopped, races), by going through all beats."""
    falls, stopped, races = {}, {}, []
    alls = places(stones)
    last = max([beat for place, beat in pushes], default=-1) + sum(beats(stones, place) for place in alls)
    for beat in range(last + 1):
        ahead = dict(falls)
        for place in alls:
            if place in ahead or place in stopped:
                continue
            due = is_due(stones, pushes, ahead, place, beat)
            stop = is_stopped(stones, ahead, place, beat)
            if due and stop:
                races.append((beat, place))
            if stop and not (due and place in firsts):
                stopped[place] = beat
            elif due:
                falls[place] = beat
    return falls, stopped, sorted(races)


def random_stones(chance, wide, high, kinds, most_beats=3, bare=0.1):
    cells = [(x, y) for x in range(wide) for y in range(high)]
    return {cell: (chance.choice(kinds), chance.randint(1, most_beats)) for cell in cells if chance.random() >= bare}


def random_pushes(chance, stones, most=4, last=6):
    alls = places(stones)
    if not alls:
        return []
    return [(chance.choice(alls), chance.randint(0, last)) for _ in range(chance.randint(0, most))]
