"""Nets by moments: a yard until a moment as a net, its plans as flows."""

from vatyard.gates import width
from vatyard.player import played

SOURCE = 0
SINK = 1


def node(yard, moment, vat):
    return 2 + moment * len(yard[0]) + vat


def spot(yard, number):
    return divmod(number - 2, len(yard[0]))


def pipes_by(yard, moment, until):
    return [number for number, pipe in enumerate(yard[1]) if moment + pipe[2] <= until]


def arcs_at(yard, moment, until):
    arcs = [(node(yard, moment, vat), node(yard, moment + 1, vat), told[1]) for vat, told in enumerate(yard[0])]
    for number in pipes_by(yard, moment, until):
        pipe = yard[1][number]
        goal = node(yard, moment + pipe[2], pipe[1])
        arcs.append((node(yard, moment, pipe[0]), goal, width(pipe[4], moment)))
    return arcs


def net(yard, wants, until):
    arcs = [(SOURCE, node(yard, 0, vat), told[2]) for vat, told in enumerate(yard[0])]
    for moment in range(until):
        arcs.extend(arcs_at(yard, moment, until))
    arcs.extend([(node(yard, until, vat), SINK, want) for vat, want in enumerate(wants)])
    for vat, told in enumerate(yard[0]):
        arcs.append((node(yard, until, vat), SINK, told[1] - wants[vat]))
    return (node(yard, until + 1, 0), arcs)


def let_in(plan):
    told = {}
    for moment, pipe, amount in plan:
        told[(moment, pipe)] = told.get((moment, pipe), 0) + amount
    return told


def flow_of(yard, wants, plan, until):
    lying = played(yard, plan, until)
    entered = let_in(plan)
    flow = [vat[2] for vat in yard[0]]
    for moment in range(until):
        flow.extend(lying[moment])
        flow.extend([entered.get((moment, pipe), 0) for pipe in pipes_by(yard, moment, until)])
    flow.extend([min(amount, want) for amount, want in zip(lying[until], wants)])
    flow.extend([max(amount - want, 0) for amount, want in zip(lying[until], wants)])
    return flow


def plan_of(yard, until, flow):
    plan = []
    place = len(yard[0])
    for moment in range(until):
        place += len(yard[0])
        for pipe in pipes_by(yard, moment, until):
            if flow[place] > 0:
                plan.append((moment, pipe, flow[place]))
            place += 1
    return plan
