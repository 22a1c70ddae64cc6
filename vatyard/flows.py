"""Flows: the greatest one from a net's source to its sink."""


def worth(arcs, flow, source):
    gone = sum([amount for arc, amount in zip(arcs, flow) if arc[0] == source])
    come = sum([amount for arc, amount in zip(arcs, flow) if arc[1] == source])
    return gone - come


class Stream:
    # The step 2 K leads along the arc K, the step 2 K + 1 against it.
    def __init__(self, count, arcs, flow):
        self.ends = []
        self.left = []
        self.steps = [[] for number in range(count)]
        for number, arc in enumerate(arcs):
            self.ends.extend([arc[1], arc[0]])
            self.left.extend([arc[2] - flow[number], flow[number]])
            self.steps[arc[0]].append(2 * number)
            self.steps[arc[1]].append(2 * number + 1)

    def amounts(self):
        return self.left[1::2]

    def levels(self, source):
        told = {source: 0}
        row = [source]
        while row:
            row = self.row_behind(row, told)
        return told

    def row_behind(self, row, told):
        behind = []
        for here in row:
            for step in self.steps[here]:
                goal = self.ends[step]
                if self.left[step] > 0 and goal not in told:
                    told[goal] = told[here] + 1
                    behind.append(goal)
        return behind

    # Steps lead only one level up: so none leads back into the source, and none
    # out of the sink, and what leaves the one or comes to the other never shrinks.
    def push_up(self, levels, source, sink):
        tries = [list(steps) for steps in self.steps]
        path = self.way_up(levels, tries, source, sink)
        while path:
            self.carry(path)
            path = self.way_up(levels, tries, source, sink)

    def way_up(self, levels, tries, source, sink):
        path = []
        here = source
        while here != sink:
            step = self.step_up(levels, tries[here], levels[here] + 1)
            if step is not None:
                path.append(step)
                here = self.ends[step]
            elif path:
                here = self.ends[path.pop() ^ 1]
                tries[here].pop()
            else:
                return path
        return path

    # What is of no use now is of none as long as the levels stand.
    def step_up(self, levels, steps, level):
        while steps:
            step = steps[len(steps) - 1]
            if self.left[step] > 0 and levels[self.ends[step]] == level:
                return step
            steps.pop()
        return None

    def carry(self, path):
        amount = min([self.left[step] for step in path])
        for step in path:
            self.left[step] -= amount
            self.left[step ^ 1] += amount


def greatest(count, arcs, source, sink, flow=None):
    stream = Stream(count, arcs, [0] * len(arcs) if flow is None else flow)
    levels = stream.levels(source)
    while sink in levels:
        stream.push_up(levels, source, sink)
        levels = stream.levels(source)
    return (stream.amounts(), sorted(levels))
