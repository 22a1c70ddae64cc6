"""Points 11 and 12: flows in nets, their worth, the greatest one and its side."""

import copy
import itertools
import random
import unittest

from vatyard.flows import greatest, worth

MOST = 10 ** 15

# count, arcs, source, sink, greatest worth
NETS = {
    "one arc": (2, [(0, 1, 5)], 0, 1, 5),
    "no arc": (2, [], 0, 1, 0),
    "an arc of most 0": (2, [(0, 1, 0)], 0, 1, 0),
    "an arc the wrong way": (2, [(1, 0, 5)], 0, 1, 0),
    "arcs alike": (2, [(0, 1, 5), (0, 1, 5), (0, 1, 2)], 0, 1, 12),
    "an arc and one turned round": (2, [(0, 1, 5), (1, 0, 9)], 0, 1, 5),
    "source above the sink": (3, [(2, 1, 4), (1, 0, 3)], 2, 0, 3),
    "nodes without arcs": (9, [(4, 6, 3), (6, 2, 7)], 4, 2, 3),
    "no way": (5, [(0, 1, 3), (2, 4, 3), (3, 1, 2), (3, 4, 8), (4, 2, 1)], 0, 4, 0),
    "no way, as an arc has most 0": (3, [(0, 1, 3), (1, 2, 0)], 0, 2, 0),
    "into the source and out of the sink": (
        4, [(1, 0, 7), (0, 1, 3), (3, 1, 5), (1, 3, 2), (3, 0, 9), (1, 2, 4), (2, 3, 4)], 0, 3, 3,
    ),
    # what goes the way 0 1 2 3 first must be taken back from the arc in the middle
    "taken back": (4, [(0, 1, 1), (0, 2, 1), (1, 2, 1), (1, 3, 1), (2, 3, 1)], 0, 3, 2),
    "taken back far": (
        8,
        [(0, 1, 9), (1, 2, 9), (2, 3, 9), (3, 7, 9), (0, 4, 9), (4, 3, 9), (2, 5, 9), (5, 6, 9), (6, 7, 9)],
        0, 7, 18,
    ),
    "the greatest mosts": (3, [(0, 1, MOST), (0, 1, MOST), (1, 2, MOST), (1, 2, MOST - 1)], 0, 2, 2 * MOST - 1),
    "rings": (5, [(0, 1, 2), (1, 2, 5), (2, 3, 5), (3, 1, 5), (2, 4, 1), (4, 3, 9), (3, 0, 4)], 0, 4, 1),
}


def reached(count, arcs, flow, source):
    """The side by its own words, step by step."""
    side = {source}
    for again in range(count):
        for (start, goal, most), amount in zip(arcs, flow):
            if start in side and amount < most:
                side.add(goal)
            if goal in side and amount > 0:
                side.add(start)
    return sorted(side)


def least_cut(count, arcs, source, sink):
    """The greatest worth, by all ways to part the nodes."""
    others = [number for number in range(count) if number not in (source, sink)]
    told = []
    for chosen in itertools.product((False, True), repeat=len(others)):
        side = {source} | {number for number, within in zip(others, chosen) if within}
        told.append(sum(most for start, goal, most in arcs if start in side and goal not in side))
    return min(told)


def balances(count, arcs, flow):
    told = [0] * count
    for (start, goal, most), amount in zip(arcs, flow):
        told[start] -= amount
        told[goal] += amount
    return told


class OfNets(unittest.TestCase):
    def check_flow(self, count, arcs, source, sink, flow):
        self.assertIs(type(flow), list)
        self.assertEqual(len(flow), len(arcs))
        for (start, goal, most), amount in zip(arcs, flow):
            self.assertIs(type(amount), int)
            self.assertTrue(0 <= amount <= most)
        for number, balance in enumerate(balances(count, arcs, flow)):
            if number not in (source, sink):
                self.assertEqual(balance, 0)

    def check_side(self, count, arcs, source, sink, flow, side):
        self.assertIs(type(side), list)
        self.assertEqual(side, reached(count, arcs, flow, source))
        self.assertIn(source, side)
        self.assertNotIn(sink, side)
        across = 0
        for (start, goal, most), amount in zip(arcs, flow):
            if start in side and goal not in side:
                self.assertEqual(amount, most)
                across += most
            if goal in side and start not in side:
                self.assertEqual(amount, 0)
        self.assertEqual(worth(arcs, flow, source), across)

    def check_greatest(self, count, arcs, source, sink, begun=None):
        handed = (list(arcs), None if begun is None else list(begun))
        told = greatest(count, handed[0], source, sink, handed[1])
        self.assertEqual(handed, (arcs, begun))
        self.assertIs(type(told), tuple)
        flow, side = told
        self.check_flow(count, arcs, source, sink, flow)
        self.check_side(count, arcs, source, sink, flow, side)
        if begun is not None:
            for (start, goal, most), first, last in zip(arcs, begun, flow):
                if start == source or goal == sink:
                    self.assertGreaterEqual(last, first)
        return worth(arcs, flow, source)


class Worth(unittest.TestCase):
    def test_what_goes_less_what_comes(self):
        arcs = [(0, 1, 9), (1, 2, 9), (2, 0, 9), (0, 2, 9), (1, 0, 9)]
        self.assertEqual(worth(arcs, [7, 4, 2, 1, 3], 0), 3)
        self.assertEqual(worth(arcs, [7, 4, 2, 1, 3], 1), 0)
        self.assertEqual(worth(arcs, [7, 4, 2, 1, 3], 2), -3)

    def test_noughts_and_no_arcs(self):
        self.assertEqual(worth([], [], 0), 0)
        self.assertEqual(worth([(0, 1, 5), (1, 0, 5)], [0, 0], 0), 0)
        self.assertEqual(worth([(1, 2, 5)], [4], 0), 0)

    def test_arcs_alike_and_below_0(self):
        self.assertEqual(worth([(3, 1, 5), (3, 1, 5)], [4, 5], 3), 9)
        self.assertEqual(worth([(1, 0, 5)], [3], 0), -3)
        self.assertEqual(worth([(0, 1, MOST)] * 3000, [MOST] * 3000, 0), 3000 * MOST)

    def test_nothing_handed_in_is_changed(self):
        arcs = [(0, 1, 5), (1, 0, 5)]
        flow = [4, 1]
        worth(arcs, flow, 0)
        self.assertEqual((arcs, flow), ([(0, 1, 5), (1, 0, 5)], [4, 1]))


class Greatest(OfNets):
    def test_nets(self):
        for name, (count, arcs, source, sink, most) in NETS.items():
            with self.subTest(name=name):
                self.assertEqual(self.check_greatest(count, arcs, source, sink), most)
                if count < 9:
                    self.assertEqual(least_cut(count, arcs, source, sink), most)

    def test_the_only_one(self):
        self.assertEqual(greatest(2, [(0, 1, 5)], 0, 1), ([5], [0]))
        self.assertEqual(greatest(2, [], 0, 1), ([], [0]))
        self.assertEqual(greatest(2, [], 1, 0), ([], [1]))
        self.assertEqual(greatest(4, [(0, 2, 3), (2, 1, 3)], 0, 1), ([3, 3], [0]))
        self.assertEqual(greatest(4, [(0, 2, 3), (2, 1, 2)], 0, 1), ([2, 2], [0, 2]))
        self.assertEqual(greatest(5, [(2, 4, 3), (4, 1, 2), (4, 3, 9)], 2, 1), ([2, 2, 0], [2, 3, 4]))

    def test_the_side_is_rising(self):
        arcs = [(11, 10, 1), (11, 9, 1), (9, 2, 1), (11, 1, 1), (1, 0, 0), (2, 5, 1), (3, 0, 1)]
        self.assertEqual(greatest(12, arcs, 11, 0), ([0] * 7, [1, 2, 5, 9, 10, 11]))

    def test_without_a_flow_it_is_begun_with_noughts(self):
        for name, (count, arcs, source, sink, most) in NETS.items():
            with self.subTest(name=name):
                told = greatest(count, arcs, source, sink)
                self.assertEqual(greatest(count, arcs, source, sink, None), told)
                self.assertEqual(greatest(count, arcs, source, sink, [0] * len(arcs)), told)

    def test_begun_with_a_greatest_one(self):
        for name, (count, arcs, source, sink, most) in NETS.items():
            with self.subTest(name=name):
                flow = greatest(count, arcs, source, sink)[0]
                self.assertEqual(self.check_greatest(count, arcs, source, sink, flow), most)
                self.assertEqual(greatest(count, arcs, source, sink, flow)[0], flow)

    def test_begun_with_what_comes_to_the_source(self):
        self.assertEqual(greatest(2, [(1, 0, 5)], 0, 1, [3]), ([0], [0]))
        self.assertEqual(greatest(2, [(1, 0, 5), (0, 1, 2)], 0, 1, [5, 1]), ([0, 2], [0]))
        # by a ring through the source, which may stay or not, but no arc that leaves it has less
        arcs = [(0, 1, 5), (1, 0, 5), (1, 2, 1)]
        self.assertEqual(self.check_greatest(3, arcs, 0, 2, [4, 4, 0]), 1)

    def test_begun_with_less_at_the_sink(self):
        # what goes by 0 1 2 4 is turned to 0 1 3 4, and 0 2 4 carries another one
        arcs = [(0, 1, 2), (0, 2, 1), (1, 2, 1), (1, 3, 1), (2, 4, 1), (3, 4, 1)]
        self.assertEqual(self.check_greatest(5, arcs, 0, 4, [1, 0, 1, 0, 1, 0]), 2)

    def test_which_arcs_at_the_sink_are_kept(self):
        # one bucket only, which may leave by two arcs: the one of the begun flow keeps it
        arcs = [(0, 2, 1), (2, 3, 1), (2, 4, 1), (3, 1, 1), (4, 1, 1)]
        self.assertEqual(greatest(5, arcs, 0, 1, [1, 1, 0, 1, 0])[0], [1, 1, 0, 1, 0])
        self.assertEqual(greatest(5, arcs, 0, 1, [1, 0, 1, 0, 1])[0], [1, 0, 1, 0, 1])

    def test_the_same_is_answered_the_same(self):
        for name, (count, arcs, source, sink, most) in NETS.items():
            first = greatest(count, copy.deepcopy(arcs), source, sink)
            second = greatest(count, copy.deepcopy(arcs), source, sink)
            self.assertEqual(first, second)

    def test_lists_told_are_new_ones(self):
        count, arcs, source, sink, most = NETS["taken back"]
        begun = greatest(count, arcs, source, sink)[0]
        kept = list(begun)
        first = greatest(count, arcs, source, sink, begun)
        second = greatest(count, arcs, source, sink, begun)
        lists = [begun, first[0], first[1], second[0], second[1]]
        self.assertEqual(len({id(part) for part in lists}), 5)
        first[0][0] = 77
        first[1].append(77)
        self.assertEqual(begun, kept)
        self.assertEqual(second, greatest(count, arcs, source, sink, kept))


def some_net(chance):
    count = chance.randint(2, 7)
    arcs = []
    for number in range(chance.randint(0, 14)):
        start, goal = chance.sample(range(count), 2)
        arcs.append((start, goal, chance.choice((0, 1, 1, 2, 3, 9, MOST))))
    source, sink = chance.sample(range(count), 2)
    return count, arcs, source, sink


def some_flow(chance, count, arcs, source, sink):
    """Any flow: rings, and ways from the source to the sink and back, laid one upon another."""
    flow = [0] * len(arcs)
    for again in range(6):
        here = chance.choice((source, sink, chance.randrange(count)))
        way = []
        nodes = [here]
        while len(way) < 8:
            open_arcs = [k for k, arc in enumerate(arcs) if arc[0] == here and flow[k] < arc[2] and k not in way]
            if not open_arcs:
                break
            way.append(chance.choice(open_arcs))
            here = arcs[way[-1]][1]
            nodes.append(here)
            ends = {nodes[0], here}
            if len(ends) == 1 or ends == {source, sink}:
                amount = chance.randint(1, min(arcs[k][2] - flow[k] for k in way))
                for k in way:
                    flow[k] += amount
                break
    return flow


class ManyNets(OfNets):
    def test_against_a_second_reckoning(self):
        worths = {}
        for seed in range(1500):
            count, arcs, source, sink = some_net(random.Random(seed))
            told = self.check_greatest(count, arcs, source, sink)
            self.assertEqual(told, least_cut(count, arcs, source, sink), (count, arcs, source, sink))
            worths[told] = True
        self.assertGreater(len(worths), 10)

    def test_begun_with_flows(self):
        begun_at = {}
        for seed in range(1500):
            chance = random.Random(seed)
            count, arcs, source, sink = some_net(chance)
            flow = some_flow(chance, count, arcs, source, sink)
            self.check_flow(count, arcs, source, sink, flow)
            told = self.check_greatest(count, arcs, source, sink, flow)
            self.assertEqual(told, least_cut(count, arcs, source, sink), (count, arcs, source, sink, flow))
            first = worth(arcs, flow, source)
            begun_at[(first > 0) - (first < 0), told > first] = True
        # flows of each worth, below 0 too, that were the greatest already or not (below 0 none is)
        self.assertEqual(sorted(begun_at), [(-1, True), (0, False), (0, True), (1, False), (1, True)])


class GreatNets(OfNets):
    def test_a_chain_of_800_nodes(self):
        arcs = [(number, number + 1, MOST - number) for number in range(799)]
        self.assertEqual(self.check_greatest(800, arcs, 0, 799), MOST - 798)
        back = [(goal, start, most) for start, goal, most in arcs]
        self.assertEqual(self.check_greatest(800, back, 799, 0), MOST - 798)

    def test_800_nodes_and_3000_arcs(self):
        for seed in range(6):
            chance = random.Random(seed)
            arcs = [(number, number + 1, chance.randint(1, MOST)) for number in range(799)]
            while len(arcs) < 3000:
                start = chance.randrange(800)
                goal = min(max(start + chance.choice((-3, -2, -1, 1, 2, 3, 4, 5)), 0), 799)
                if start != goal:
                    arcs.append((start, goal, chance.randint(0, MOST)))
            chance.shuffle(arcs)
            flow = greatest(800, arcs, 0, 799)[0]
            self.assertGreater(worth(arcs, flow, 0), 0)
            self.assertEqual(self.check_greatest(800, arcs, 0, 799), worth(arcs, flow, 0))
            self.check_greatest(800, arcs, 799, 0, [0] * len(arcs))


if __name__ == "__main__":
    unittest.main()
