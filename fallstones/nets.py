"""Nets of nodes, and what arrives at their ins."""

from fallstones.errors import NoArrivals, NoNet
from fallstones.wholes import is_from_nought, is_whole_within

MOST_ARRIVALS = 6
LENGTHS = {"in": 2, "go": 1, "or": 3, "both": 3, "unless": 3, "late": 3}


def is_node(thing, at):
    """Whether a thing is a node that may stand in a net at a number."""
    if not isinstance(thing, tuple) or len(thing) == 0 or not isinstance(thing[0], str):
        return False
    word = thing[0]
    if len(thing) != LENGTHS.get(word):
        return False
    if word == "go":
        return True
    if word == "in":
        return is_whole_within(thing[1], 0, MOST_ARRIVALS - 1)
    if word == "late":
        return is_whole_within(thing[1], 0, at - 1) and is_from_nought(thing[2])
    return is_whole_within(thing[1], 0, at - 1) and is_whole_within(thing[2], 0, at - 1)


def is_net(thing):
    """Whether a thing is a net."""
    if not isinstance(thing, list) or len(thing) == 0:
        return False
    return all([is_node(node, at) for at, node in enumerate(thing)])


def refuse_no_net(thing):
    """Refuse what is no net."""
    if not is_net(thing):
        raise NoNet("a net is a list of nodes, whose parts are earlier ones")


def parts_of(node):
    """The tuple of the numbers of a node's parts."""
    if node[0] in ("in", "go"):
        return ()
    return node[1:2] if node[0] == "late" else node[1:]


def is_source(node):
    """Whether a node is an in or go, which have no parts."""
    return parts_of(node) == ()


def ways_needed(net):
    """How many ways in a net has at least: one more than the greatest k of its ins, and never none."""
    return max([node[1] + 1 for node in net if node[0] == "in"], default=1)


def is_arrival(thing):
    """Whether a thing may arrive at an in: a beat, or None."""
    return thing is None or is_from_nought(thing)


def are_arrivals(net, thing):
    """Whether a thing is a list of arrivals for the net."""
    refuse_no_net(net)
    if not isinstance(thing, list) or not ways_needed(net) <= len(thing) <= MOST_ARRIVALS:
        return False
    return all([is_arrival(arrival) for arrival in thing])


def refuse_no_arrivals(net, thing):
    """Refuse what is no net, and what are no arrivals for it."""
    if not are_arrivals(net, thing):
        raise NoArrivals("arrivals are a list of one to six beats or None, one for each of the net's ins at least")
