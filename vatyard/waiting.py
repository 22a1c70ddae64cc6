"""Waiting: the first moment at which wants can be met, or vats which show that none is."""

from vatyard.flows import greatest, worth
from vatyard.meeting import met_at
from vatyard.nets import SINK, SOURCE, node


# Time left aside, a pipe carries whatever there is. As its most is more than any flow
# is worth, no pipe leads from the greatest flow's side to elsewhere.
def timeless(yard, wants):
    wide = sum([vat[2] for vat in yard[0]]) + 1
    arcs = [(SOURCE, node(yard, 0, vat), told[2]) for vat, told in enumerate(yard[0])]
    arcs.extend([(node(yard, 0, pipe[0]), node(yard, 0, pipe[1]), wide) for pipe in yard[1]])
    arcs.extend([(node(yard, 0, vat), SINK, want) for vat, want in enumerate(wants)])
    return (node(yard, 1, 0), arcs)


def cut_off(yard, wants):
    told = timeless(yard, wants)
    found = greatest(told[0], told[1], SOURCE, SINK)
    if worth(told[1], found[0], SOURCE) == sum(wants):
        return None
    return [vat for vat in range(len(yard[0])) if node(yard, 0, vat) not in found[1]]


def surely(yard, wants):
    late = max([pipe[4][2] for pipe in yard[1] if pipe[4][0] == "late"], default=0)
    lacking = sum([max(want - vat[2], 0) for vat, want in zip(yard[0], wants)])
    return late + lacking * sum([pipe[2] for pipe in yard[1]])


def soonest(yard, wants, last):
    vats = cut_off(yard, wants)
    if vats is not None:
        return ("never", vats)
    found = met_at(yard, wants, last)
    if found[0] == "shut":
        return ("later", found[1])
    return first_met(yard, wants, last, found[1])


# Whoever meets the wants at a moment, with nothing under way, meets them at the
# next one by waiting: so the first such moment is found by halving.
def first_met(yard, wants, last, plan):
    met = last
    shut = -1
    part = []
    while met - shut > 1:
        middle = (met + shut) // 2
        found = met_at(yard, wants, middle)
        if found[0] == "plan":
            met = middle
            plan = found[1]
        else:
            shut = middle
            part = found[1]
    return ("met", met, plan, part)
