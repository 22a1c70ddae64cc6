"""Meeting wants at a moment: by a plan, or a part that shows that none does."""

from vatyard.flows import greatest
from vatyard.gates import width
from vatyard.nets import SINK, SOURCE, net, plan_of, spot


def spot_lets_in(vats, within, place):
    moment = place[0]
    vat = place[1]
    if moment == 0:
        return vats[vat][2]
    return 0 if (moment - 1, vat) in within else vats[vat][1]


def pipe_lets_in(pipe, within):
    told = 0
    for moment, vat in within:
        begun = moment - pipe[2]
        if vat == pipe[1] and begun >= 0 and (begun, pipe[0]) not in within:
            told += width(pipe[4], begun)
    return told


def lets_in(yard, part, until):
    within = dict([(place, True) for place in part])
    by_vats = sum([spot_lets_in(yard[0], within, place) for place in part])
    return by_vats + sum([pipe_lets_in(pipe, within) for pipe in yard[1]])


# Of two arcs to the sink the first is for what is wanted, the second for the rest.
# Without the second ones the greatest flow meets the wants as far as can be, and
# its side is the proof; begun with it, the second ones take in all that is left.
def met_most(yard, wants, until):
    told = net(yard, wants, until)
    spare = len(yard[0])
    wanted = told[1][:len(told[1]) - spare]
    found = greatest(told[0], wanted, SOURCE, SINK)
    flow = greatest(told[0], told[1], SOURCE, SINK, found[0] + [0] * spare)[0]
    met = sum(found[0][len(wanted) - spare:])
    return (met, plan_of(yard, until, flow), part_beyond(yard, told[0], found[1]))


def part_beyond(yard, count, side):
    within = dict([(number, True) for number in side])
    return [spot(yard, number) for number in range(2, count) if number not in within]


def met_at(yard, wants, until):
    found = met_most(yard, wants, until)
    if found[0] == sum(wants):
        return ("plan", found[1])
    return ("shut", found[2])


def most_at(yard, vat, until):
    room = yard[0][vat][1]
    wants = [0] * len(yard[0])
    wants[vat] = room
    found = met_most(yard, wants, until)
    return (found[0], found[1], found[2] if found[0] < room else [])
