"""Lates of a net's parts, the times by them, the least right ones, lates put in, and long ways."""

from fallstones.errors import NoLates, NoNumber
from fallstones.nets import is_source, parts_of, refuse_no_net
from fallstones.wholes import is_from_nought, is_whole_within


def are_lates_of(node, thing):
    """Whether a thing is a tuple of a late for each part of a node."""
    if not isinstance(thing, tuple) or len(thing) != len(parts_of(node)):
        return False
    return all([is_from_nought(late) for late in thing])


def refuse_no_lates(net, thing):
    """Refuse what is no net, and what are no lates of it."""
    refuse_no_net(net)
    if not isinstance(thing, list) or len(thing) != len(net):
        raise NoLates("lates are a list of a tuple for each node")
    for node, lates in zip(net, thing):
        if not are_lates_of(node, lates):
            raise NoLates("a node's lates are a tuple of a whole number from 0 on for each of its parts")


def time_of(node, comings):
    """The time of a node whose parts come at the told times, or None where these aren't right."""
    word = node[0]
    if is_source(node):
        return 0
    if word == "late":
        return comings[0] + node[2]
    one, other = comings
    if word == "both":
        return max(one, other)
    if word == "or":
        return one if one == other else None
    return one if one > other else None


def time_by(node, lates, times):
    """The time of a node by its parts' lates and the times of the earlier nodes, or None where these aren't right."""
    return time_of(node, [times[part] + late for part, late in zip(parts_of(node), lates)])


def times_by(net, lates):
    """The list of the times of a net's nodes by lates, or None where the lates aren't right."""
    refuse_no_lates(net, lates)
    times = []
    for node, row in zip(net, lates):
        time = time_by(node, row, times)
        if time is None:
            return None
        times.append(time)
    return times


def least_lates(node, times):
    """The lates of a node's parts by which its time is right and the least, by the least times of the earlier ones."""
    word = node[0]
    if word not in ("or", "unless"):
        return tuple([0 for part in parts_of(node)])
    one = times[node[1]]
    other = times[node[2]]
    if word == "or":
        return (max(one, other) - one, max(one, other) - other)
    return (max(one, other + 1) - one, 0)


def right_times(net):
    """The least right times of a net and lates that give them: a tuple (times, lates) of lists."""
    refuse_no_net(net)
    times = []
    lates = []
    for node in net:
        row = least_lates(node, times)
        times.append(time_by(node, row, times))
        lates.append(row)
    return (times, lates)


def part_put_in(made, part, late):
    """The number of a part that comes so late, a late node put in for it at the end of a net where it needs one."""
    if late == 0:
        return part
    made.append(("late", part, late))
    return len(made) - 1


def put_in(net, lates):
    """The net with lates put in as late nodes: a tuple (net, numbers), numbers the old nodes' new ones."""
    refuse_no_lates(net, lates)
    made = []
    numbers = []
    for node, row in zip(net, lates):
        new = [part_put_in(made, numbers[part], late) for part, late in zip(parts_of(node), row)]
        numbers.append(len(made))
        # An in's k and a late's d stand where no part does, and stay.
        made.append((node[0],) + tuple(new) + node[1 + len(new):])
    return (made, numbers)


def long_part(node, times):
    """Which part of a node its least time comes from, 0 or 1."""
    word = node[0]
    if word == "late":
        return 0
    one = times[node[1]]
    other = times[node[2]]
    # An unless has to wait until its second part has come, so that part counts for one beat more.
    if word == "unless":
        return 0 if one > other else 1
    return 0 if one >= other else 1


def long_way(net, node):
    """A way to a node that is as long as its least time: a list of tuples (node, part), from that node back."""
    refuse_no_net(net)
    if not is_whole_within(node, 0, len(net) - 1):
        raise NoNumber("a net's nodes are numbered from 0")
    times = right_times(net)[0]
    way = []
    at = node
    while not is_source(net[at]):
        part = long_part(net[at], times)
        way.append((at, part))
        at = parts_of(net[at])[part]
    return way
