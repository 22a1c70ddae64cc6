"""The cheapest plan that meets wants at a moment, with heights that show it."""

from vatyard.meeting import met_at
from vatyard.nets import SINK, flow_of, net, node, pipes_by, plan_of
from vatyard.player import price_of
from vatyard.rings import cheapest


# In each plan that meets the wants the arcs of the fills and of the wants are full.
# They are left out, so that what is wanted in one vat isn't moved to another one.
def free(row, vats):
    last = len(row) - vats
    return row[vats:last - vats] + row[last:]


def free_prices(yard, until):
    told = []
    for moment in range(until):
        told.extend([0] * len(yard[0]))
        told.extend([yard[1][pipe][3] for pipe in pipes_by(yard, moment, until)])
    return told + [0] * len(yard[0])


# What is left over at last goes to the sink for nothing: so heights count from there.
def by_vats(yard, until, heights):
    told = []
    for moment in range(until + 1):
        row = heights[node(yard, moment, 0):node(yard, moment + 1, 0)]
        told.append([height - heights[SINK] for height in row])
    return told


def cheap_plan(yard, wants, until):
    found = met_at(yard, wants, until)
    if found[0] == "shut":
        return None
    vats = len(yard[0])
    told = net(yard, wants, until)
    flow = flow_of(yard, wants, found[1], until)
    least = cheapest(told[0], free(told[1], vats), free_prices(yard, until), free(flow, vats))
    plan = plan_of(yard, until, flow[:vats] + least[0])
    return (plan, price_of(yard, plan), by_vats(yard, until, least[1]))
