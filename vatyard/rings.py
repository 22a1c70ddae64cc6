"""Rings: amounts of least price with the same balances, and heights that show it."""

from vatyard.flows import greatest

# Prices are taken more and more closely, by so many bits at a time.
BITS = 4


def flow_price(prices, amounts):
    return sum([price * amount for price, amount in zip(prices, amounts)])


def balances(count, arcs, amounts):
    told = [0] * count
    for arc, amount in zip(arcs, amounts):
        told[arc[0]] -= amount
        told[arc[1]] += amount
    return told


def beyond(count, arcs, amounts, wanted):
    return [told - want for told, want in zip(balances(count, arcs, amounts), wanted)]


def slacks_of(arcs, prices, heights):
    return [heights[arc[0]] + price - heights[arc[1]] for arc, price in zip(arcs, prices)]


# An arc fits the heights if it is full where its slack is below 0, and empty where above.
def fitted(arcs, slacks, amounts):
    told = list(amounts)
    for number, slack in enumerate(slacks):
        if slack != 0:
            told[number] = arcs[number][2] if slack < 0 else 0
    return told


# While all arcs fit, each way that is left, along an arc or against it, is 0 long or more.
def ways_out(count, arcs, slacks, amounts):
    told = [[] for number in range(count)]
    for arc, slack, amount in zip(arcs, slacks, amounts):
        if amount < arc[2]:
            told[arc[0]].append((arc[1], slack))
        if amount > 0:
            told[arc[1]].append((arc[0], -slack))
    return told


def distances(ways, starts):
    told = {}
    rows = {0: starts}
    while rows:
        far = min(rows)
        row = rows.pop(far)
        for here in row:
            if here not in told:
                told[here] = far
                for goal, slack in ways[here]:
                    if goal not in told:
                        rows.setdefault(far + slack, []).append(goal)
    return told


# With each node raised by its distance all arcs still fit, and the shortest ways
# have no slack. What can't be reached goes up with the farthest.
def raised(heights, far):
    most = max(far.values())
    return [height + far.get(number, most) for number, height in enumerate(heights)]


# What is moved over arcs without slack leaves all arcs fitting.
def evened(count, arcs, slacks, amounts, over):
    level = [number for number, slack in enumerate(slacks) if slack == 0]
    ends = [(count, number, extra) for number, extra in enumerate(over) if extra > 0]
    ends.extend([(number, count + 1, -extra) for number, extra in enumerate(over) if extra < 0])
    begun = [amounts[number] for number in level] + [0] * len(ends)
    moved = greatest(count + 2, [arcs[number] for number in level] + ends, count, count + 1, begun)[0]
    told = list(amounts)
    for number, amount in zip(level, moved):
        told[number] = amount
    return told


def repaired(count, arcs, prices, amounts, heights):
    wanted = balances(count, arcs, amounts)
    slacks = slacks_of(arcs, prices, heights)
    told = fitted(arcs, slacks, amounts)
    over = beyond(count, arcs, told, wanted)
    while any(over):
        starts = [number for number, extra in enumerate(over) if extra > 0]
        heights = raised(heights, distances(ways_out(count, arcs, slacks, told), starts))
        slacks = slacks_of(arcs, prices, heights)
        told = evened(count, arcs, slacks, told, over)
        over = beyond(count, arcs, told, wanted)
    return (told, heights)


# Heights that fit the rough prices nearly fit the closer ones, so that each repair
# is short; with the whole prices at once there could be a great many.
def cheapest(count, arcs, prices, amounts):
    told = (amounts, [0] * count)
    bits = max([abs(price) for price in prices], default=0).bit_length()
    shifts = list(range(0, bits + BITS, BITS))
    for shift in reversed(shifts):
        rough = [price >> shift for price in prices]
        told = repaired(count, arcs, rough, told[0], [height << BITS for height in told[1]])
    return told
