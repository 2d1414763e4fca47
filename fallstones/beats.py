"""The beats of a net's nodes by what arrives."""

from fallstones.nets import refuse_no_arrivals


def later(beat, late):
    """The beat so much later, or None where it is None."""
    return None if beat is None else beat + late


def earlier_of(one, other):
    """The lesser one of two beats, one that is None left out."""
    return min([beat for beat in (one, other) if beat is not None], default=None)


def later_of(one, other):
    """The greater one of two beats, None where one of them is."""
    return None if one is None or other is None else max(one, other)


def unless_ahead(one, other):
    """The one beat where it is less than the other one, or that is None; else None."""
    if one is None or other is None:
        return one
    return one if one < other else None


def node_beat(node, beats, arrivals):
    """The beat of a node, by the beats of the earlier ones."""
    word = node[0]
    if word == "in":
        return arrivals[node[1]]
    if word == "go":
        return 0
    if word == "late":
        return later(beats[node[1]], node[2])
    if word == "or":
        return earlier_of(beats[node[1]], beats[node[2]])
    if word == "both":
        return later_of(beats[node[1]], beats[node[2]])
    return unless_ahead(beats[node[1]], beats[node[2]])


def net_beats(net, arrivals):
    """The list of the beats of a net's nodes by arrivals, None for one that has none."""
    refuse_no_arrivals(net, arrivals)
    beats = []
    for node in net:
        beats.append(node_beat(node, beats, arrivals))
    return beats
