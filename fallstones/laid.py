"""Nets laid on floors.

Each node has a row of the floor, along which it goes east; ins and go have the
first rows, and start in the first column. Each other node has three columns
further to the east than all ahead of it, by which its parts come down from
their rows: the first part by the western column, the second one by the eastern
one, where the node's own row starts.

    first part -> S   S <- second part
                  ne E <node> -> the node's row

Where a column goes across a row there is a bridge. All ways go east and south
only, a cell a beat, so a node's signal is at (x, y) just x + y beats behind the
node's own beat, by whichever way it comes: nothing else has to be evened out.
"""

from fallstones.errors import NoNumber, TooMany
from fallstones.floors import Floor
from fallstones.kinds import BRIDGE
from fallstones.nets import is_source, parts_of, refuse_no_net
from fallstones.wholes import is_whole_within

MOST_LAID = 16
MOST_LATE = 9000
MOST_OUTS = 3
# The stone that is knocked by a node's parts: the first one comes from the west, the second one from the north.
NODE_KINDS = {"or": "new", "both": "Enw", "unless": "En", "late": "E"}
COLUMNS = 3


def refuse_too_many(net):
    """Refuse a net that is too large to be laid."""
    sources = [node for node in net if is_source(node)]
    if len(net) - len(sources) > MOST_LAID:
        raise TooMany("at most sixteen nodes that are no in and no go are laid")
    if len(set(sources)) != len(sources):
        raise TooMany("ins have unlike numbers, and there is at most one go")
    if any([node[0] == "late" and node[2] > MOST_LATE for node in net]):
        raise TooMany("a late is of at most 9,000 beats")


def refuse_no_outs(net, outs):
    """Refuse what is no list of one to three numbers of a net's nodes."""
    if not isinstance(outs, list) or not 1 <= len(outs) <= MOST_OUTS:
        raise NoNumber("outs are a list of one to three")
    if not all([is_whole_within(out, 0, len(net) - 1) for out in outs]):
        raise NoNumber("an out is the number of a node")


def starts_of(net):
    """The cells at which the nodes' rows start, a list."""
    rows = len([node for node in net if is_source(node)])
    starts = []
    sources = 0
    for node in net:
        laid_ahead = len(starts) - sources
        if is_source(node):
            starts.append((0, sources))
            sources += 1
        else:
            # A row is left free above each node, so that its second part comes to it by a one-way stone.
            starts.append((COLUMNS * (laid_ahead + 1), rows + 1 + 2 * laid_ahead))
    return starts


def columns_of(net, starts, number):
    """The tuples (part, column) by which the parts of a node come down to it."""
    x = starts[number][0]
    return list(zip(parts_of(net[number]), (x - COLUMNS + 1, x)))


def lay_source(stones, start):
    """Lay the first stone of an in or go, from which a signal is as late in the next column as all others are."""
    stones[start] = ("E", start[1] + 1)


def lay_node(stones, node, start):
    """Lay the stones by which the parts of a node meet."""
    x, y = start
    stones[start] = (NODE_KINDS[node[0]], 1)
    stones[(x - 2, y)] = ("ne", 1)
    stones[(x - 1, y)] = ("E", 1 + node[2] if node[0] == "late" else 1)


def lay_row(stones, start, taps):
    """Lay a node's row, from behind its start to the last column at which it is tapped."""
    first, y = start
    for x in range(first + 1, max(taps, default=first) + 1):
        stones[(x, y)] = ("esw" if x in taps else "E", 1)


def lay_column(stones, x, top, bottom):
    """Lay a column between two rows, with bridges where it goes across other rows."""
    for y in range(top + 1, bottom):
        stones[(x, y)] = (BRIDGE if (x, y) in stones else "S", 1)


def lay_columns(stones, net, starts, number):
    """Lay the columns by which the parts of a node come to it."""
    bottom = starts[number][1]
    for part, x in columns_of(net, starts, number):
        # The first part's column ends at the turn beside the node, the second part's at the node.
        lay_column(stones, x, starts[part][1], bottom)


def taps_of(net, starts):
    """For each node the columns at which its row is tapped, a list of lists."""
    taps = [[] for node in net]
    for number in range(len(net)):
        for part, x in columns_of(net, starts, number):
            taps[part].append(x)
    return taps


def stones_of(net, starts):
    """The stones of a laid net, a dict from cells."""
    stones = {}
    for node, start, taps in zip(net, starts, taps_of(net, starts)):
        if is_source(node):
            lay_source(stones, start)
        else:
            lay_node(stones, node, start)
        lay_row(stones, start, taps)
    # Only when all rows are laid is it known where a column goes across one.
    for number in range(len(net)):
        lay_columns(stones, net, starts, number)
    return stones


def floor_of(stones):
    """The least floor that has room for the stones."""
    return Floor(max([x for x, y in stones]) + 1, max([y for x, y in stones]) + 1, stones)


def place_at(start):
    """The place of the stone at which a node's row starts."""
    return (start[0], start[1], 0)


def out_at(node, start):
    """The place that tells a node, and how many beats later than the node it does so."""
    return (place_at(start), 0 if is_source(node) else start[0] + start[1])


def laid(net, outs):
    """A net laid on a floor: a tuple (floor, ins, goes, outs)."""
    refuse_no_net(net)
    refuse_too_many(net)
    refuse_no_outs(net, outs)
    starts = starts_of(net)
    floor = floor_of(stones_of(net, starts))
    ins = {node[1]: place_at(start) for node, start in zip(net, starts) if node[0] == "in"}
    goes = [place_at(start) for node, start in zip(net, starts) if node[0] == "go"]
    return (floor, ins, goes, [out_at(net[out], starts[out]) for out in outs])
