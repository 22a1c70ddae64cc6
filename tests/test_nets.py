"""Points 13 and 14: a yard by moments as a net, a plan as a flow and a flow as a plan."""

import random
import unittest

from vatyard.flows import greatest, worth
from vatyard.nets import flow_of, net, node, plan_of, spot
from vatyard.player import Play, played

# pipes of the lengths 1, 3 and 2, of each kind of gate
ROW = (
    [("a", 10, 8), ("b", 4, 1), ("c", 5, 0)],
    [(0, 1, 1, 7, ("steady", 3)), (0, 2, 3, 0, ("late", 6, 1)), (1, 2, 2, 9, ("tidal", 5, 2, 2))],
)
ALONE = ([("a", 7, 3)], [])


def copy_of(yard):
    return (list(yard[0]), list(yard[1]))


class Nodes(unittest.TestCase):
    def test_numbers(self):
        self.assertEqual(node(ROW, 0, 0), 2)
        self.assertEqual(node(ROW, 0, 2), 4)
        self.assertEqual(node(ROW, 1, 0), 5)
        self.assertEqual(node(ROW, 60, 1), 183)
        self.assertEqual(node(ALONE, 5, 0), 7)

    def test_spots(self):
        self.assertEqual(spot(ROW, 2), (0, 0))
        self.assertEqual(spot(ROW, 4), (0, 2))
        self.assertEqual(spot(ROW, 5), (1, 0))
        self.assertEqual(spot(ROW, 183), (60, 1))
        self.assertEqual(spot(ALONE, 7), (5, 0))
        self.assertIs(type(spot(ROW, 9)), tuple)

    def test_each_turns_the_other_round(self):
        for count in range(1, 13):
            yard = ([("abcdefghijkl"[vat], 1, 0) for vat in range(count)], [])
            numbers = []
            for moment in range(61):
                for vat in range(count):
                    numbers.append(node(yard, moment, vat))
                    self.assertEqual(spot(yard, numbers[-1]), (moment, vat))
            self.assertEqual(numbers, list(range(2, 2 + 61 * count)))


class Nets(unittest.TestCase):
    def test_until_0(self):
        self.assertEqual(net(ROW, [2, 0, 5], 0), (5, [
            (0, 2, 8), (0, 3, 1), (0, 4, 0),
            (2, 1, 2), (3, 1, 0), (4, 1, 5),
            (2, 1, 8), (3, 1, 4), (4, 1, 0),
        ]))

    def test_until_1(self):
        self.assertEqual(net(ROW, [0, 0, 0], 1), (8, [
            (0, 2, 8), (0, 3, 1), (0, 4, 0),
            (2, 5, 10), (3, 6, 4), (4, 7, 5), (2, 6, 3),
            (5, 1, 0), (6, 1, 0), (7, 1, 0),
            (5, 1, 10), (6, 1, 4), (7, 1, 5),
        ]))

    def test_until_4(self):
        self.assertEqual(net(ROW, [10, 4, 5], 4), (17, [
            (0, 2, 8), (0, 3, 1), (0, 4, 0),
            (2, 5, 10), (3, 6, 4), (4, 7, 5), (2, 6, 3), (2, 13, 0), (3, 10, 5),
            (5, 8, 10), (6, 9, 4), (7, 10, 5), (5, 9, 3), (5, 16, 6), (6, 13, 2),
            (8, 11, 10), (9, 12, 4), (10, 13, 5), (8, 12, 3), (9, 16, 5),
            (11, 14, 10), (12, 15, 4), (13, 16, 5), (11, 15, 3),
            (14, 1, 10), (15, 1, 4), (16, 1, 5),
            (14, 1, 0), (15, 1, 0), (16, 1, 0),
        ]))

    def test_a_vat_alone(self):
        self.assertEqual(net(ALONE, [7], 2), (5, [(0, 2, 3), (2, 3, 7), (3, 4, 7), (4, 1, 7), (4, 1, 0)]))
        self.assertEqual(net(ALONE, [0], 0), (3, [(0, 2, 3), (2, 1, 0), (2, 1, 7)]))

    def test_pipes_that_come_just_by_the_last_moment(self):
        yard = ([("a", 1, 1), ("b", 1, 0)], [(0, 1, 20, 0, ("steady", 1)), (0, 1, 20, 0, ("steady", 2))])
        self.assertEqual([arc for arc in net(yard, [0, 0], 19)[1] if arc[0] == 2], [(2, 4, 1)])
        self.assertEqual([arc for arc in net(yard, [0, 0], 20)[1] if arc[0] == 2], [
            (2, 4, 1), (2, 43, 1), (2, 43, 2),
        ])

    def test_the_greatest_net(self):
        names = "abcdefghijkl"
        vats = [(name, 10 ** 12, 10 ** 12) for name in names]
        pipes = [(k % 12, (k + 1) % 12, 1, 0, ("steady", 10 ** 12)) for k in range(24)]
        count, arcs = net((vats, pipes), [5] * 12, 60)
        self.assertEqual(count, 734)
        self.assertEqual(len(arcs), 12 + 60 * 36 + 24)
        waiting = [(14 + k, 26 + k, 10 ** 12) for k in range(12)]
        self.assertEqual(arcs[12 + 36:12 + 36 + 13], waiting + [(14, 27, 10 ** 12)])

    def test_kinds_and_lists(self):
        yard = copy_of(ROW)
        wants = [2, 0, 5]
        told = net(yard, wants, 4)
        again = net(yard, wants, 4)
        self.assertEqual((yard, wants), (ROW, [2, 0, 5]))
        self.assertIs(type(told), tuple)
        self.assertIs(type(told[1]), list)
        self.assertTrue(all(type(arc) is tuple and len(arc) == 3 for arc in told[1]))
        self.assertEqual(told, again)
        told[1].clear()
        self.assertEqual(again, net(ROW, [2, 0, 5], 4))


PLAN = [(0, 0, 2), (1, 0, 1), (1, 1, 2), (1, 2, 2), (2, 2, 1)]
# fills; then, moment by moment, what lies in the vats and what is let into pipes 0, 1 and 2, 0 1 2, 0 2, 0
FLOW = [
    8, 1, 0,
    6, 1, 0, 2, 0, 0,
    3, 1, 0, 1, 2, 2,
    3, 1, 0, 0, 1,
    3, 1, 2, 0,
]


def is_flow(count, arcs, flow):
    if len(flow) != len(arcs) or not all(0 <= amount <= arc[2] for arc, amount in zip(arcs, flow)):
        return False
    balances = [0] * count
    for (start, goal, most), amount in zip(arcs, flow):
        balances[start] -= amount
        balances[goal] += amount
    return not any(balances[2:])


class FlowsOfPlans(unittest.TestCase):
    def test_one(self):
        self.assertEqual(played(ROW, PLAN, 4)[4], [3, 1, 5])
        self.assertEqual(flow_of(ROW, [2, 3, 4], PLAN, 4), FLOW + [2, 1, 4, 1, 0, 1])
        self.assertEqual(flow_of(ROW, [0, 0, 0], PLAN, 4), FLOW + [0, 0, 0, 3, 1, 5])
        self.assertEqual(flow_of(ROW, [10, 4, 5], PLAN, 4), FLOW + [3, 1, 5, 0, 0, 0])
        self.assertEqual(flow_of(ROW, [3, 1, 5], PLAN, 4), FLOW + [3, 1, 5, 0, 0, 0])

    def test_in_any_order(self):
        self.assertEqual(flow_of(ROW, [2, 3, 4], PLAN[::-1], 4), FLOW + [2, 1, 4, 1, 0, 1])

    def test_several_lettings_for_one_moment_and_pipe(self):
        plan = [(1, 2, 1), (0, 0, 1), (1, 1, 1), (1, 0, 1), (0, 0, 1), (2, 2, 1), (1, 2, 1), (1, 1, 1)]
        self.assertEqual(flow_of(ROW, [2, 3, 4], plan, 4), FLOW + [2, 1, 4, 1, 0, 1])

    def test_without_lettings(self):
        self.assertEqual(flow_of(ROW, [9, 0, 1], [], 0), [8, 1, 0, 8, 0, 0, 0, 1, 0])
        self.assertEqual(flow_of(ROW, [9, 0, 1], [], 1), [8, 1, 0, 8, 1, 0, 0, 8, 0, 0, 0, 1, 0])
        self.assertEqual(flow_of(ALONE, [2], [], 2), [3, 3, 3, 2, 1])

    def test_nothing_handed_in_is_changed_and_lists_are_new(self):
        yard = copy_of(ROW)
        plan = list(PLAN)
        wants = [2, 3, 4]
        first = flow_of(yard, wants, plan, 4)
        second = flow_of(yard, wants, plan, 4)
        self.assertEqual((yard, plan, wants), (ROW, PLAN, [2, 3, 4]))
        self.assertEqual(first, second)
        first.clear()
        self.assertEqual(second, FLOW + [2, 1, 4, 1, 0, 1])


class PlansOfFlows(unittest.TestCase):
    def test_one(self):
        self.assertEqual(plan_of(ROW, 4, FLOW + [2, 1, 4, 1, 0, 1]), PLAN)

    def test_without_lettings(self):
        self.assertEqual(plan_of(ROW, 0, [8, 1, 0, 8, 0, 0, 0, 1, 0]), [])
        self.assertEqual(plan_of(ROW, 4, [0] * 26), [])
        self.assertEqual(plan_of(ALONE, 2, [3, 3, 3, 2, 1]), [])

    def test_of_a_flow_whose_source_is_not_full(self):
        flow = [2, 0, 0, 0, 0, 0, 2, 0, 0, 0, 1, 0, 0, 0, 1, 0, 1, 0, 0, 0, 0, 1, 1, 0, 0, 1, 1, 0, 0, 0]
        self.assertTrue(is_flow(*net(ROW, [10, 4, 5], 4), flow))
        self.assertEqual(plan_of(ROW, 4, flow), [(0, 0, 2), (1, 2, 1)])

    def test_nothing_handed_in_is_changed_and_lists_are_new(self):
        yard = copy_of(ROW)
        flow = FLOW + [2, 1, 4, 1, 0, 1]
        first = plan_of(yard, 4, flow)
        second = plan_of(yard, 4, flow)
        self.assertEqual((yard, flow), (ROW, FLOW + [2, 1, 4, 1, 0, 1]))
        self.assertTrue(all(type(letting) is tuple for letting in first))
        first.clear()
        self.assertEqual(second, PLAN)


def some_gate(chance):
    return chance.choice([
        ("steady", chance.randint(1, 6)),
        ("late", chance.randint(1, 6), chance.randint(0, 5)),
        ("tidal", chance.randint(1, 6), chance.randint(1, 6), chance.randint(2, 4)),
    ])


def some_yard(chance):
    vats = []
    for name in "abcde"[:chance.randint(2, 5)]:
        room = chance.randint(0, 12)
        vats.append((name, room, chance.randint(0, room)))
    pipes = []
    for number in range(chance.randint(0, 8)):
        start, goal = chance.sample(range(len(vats)), 2)
        pipes.append((start, goal, chance.randint(1, 4), chance.randint(0, 9), some_gate(chance)))
    return (vats, pipes)


def let_some(chance, yard, play, until):
    """Lets in at random at this moment what comes by then, and tells the lettings."""
    done = []
    for pipe in chance.sample(range(len(yard[1])), len(yard[1])):
        most = min(play.room_in(pipe), play.holds()[yard[1][pipe][0]])
        if most > 0 and play.now() + yard[1][pipe][2] <= until and chance.random() < 0.7:
            done.append((play.now(), pipe, chance.randint(1, most)))
            play.let(pipe, done[-1][2])
    return done


def some_plan(chance, yard, until):
    """A plan that leaves nothing under way; tried again until none of it is refused."""
    for again in range(20):
        play = Play(yard)
        plan = []
        while play.now() < until and not play.full():
            plan.extend(let_some(chance, yard, play, until))
            if not play.full():
                play.go_on()
        if not play.full():
            return plan
    return []


def some_wants(chance, yard):
    return [chance.choice((0, room, chance.randint(0, room))) for name, room, fill in yard[0]]


class ManyYards(unittest.TestCase):
    def test_a_plan_to_a_flow_and_back(self):
        lettings = 0
        for seed in range(1000):
            chance = random.Random(seed)
            yard = some_yard(chance)
            until = chance.randint(0, 7)
            wants = some_wants(chance, yard)
            plan = some_plan(chance, yard, until)
            lettings += len(plan)
            flow = flow_of(yard, wants, plan, until)
            count, arcs = net(yard, wants, until)
            self.assertTrue(is_flow(count, arcs, flow))
            vats = len(yard[0])
            self.assertEqual(flow[:vats], [vat[2] for vat in yard[0]])
            last = played(yard, plan, until)[until]
            self.assertEqual(flow[-2 * vats:-vats], [min(held, want) for held, want in zip(last, wants)])
            self.assertEqual(flow[-vats:], [held - min(held, want) for held, want in zip(last, wants)])
            self.assertEqual(plan_of(yard, until, flow), sorted(plan))
        self.assertGreater(lettings, 1000)

    def lying_by(self, yard, until, arcs, flow):
        """What a flow tells to lie in each vat as each moment ends, read from the arcs' nodes."""
        # no pipe leads to its own start, so only an arc of waiting leads as many nodes on as there are vats
        told = [[0] * len(yard[0]) for moment in range(until + 1)]
        for (start, goal, most), amount in zip(arcs, flow):
            if goal == 1 or (start > 1 and goal == start + len(yard[0])):
                moment, vat = spot(yard, start)
                told[moment][vat] += amount
        return told

    def test_a_greatest_flow_to_a_plan(self):
        lettings = 0
        for seed in range(400):
            chance = random.Random(1000 + seed)
            yard = some_yard(chance)
            until = chance.randint(0, 7)
            wants = some_wants(chance, yard)
            count, arcs = net(yard, wants, until)
            flow = greatest(count, arcs, 0, 1)[0]
            self.assertEqual(worth(arcs, flow, 0), sum(vat[2] for vat in yard[0]))
            plan = plan_of(yard, until, flow)
            lettings += len(plan)
            told = played(yard, plan, until)
            self.assertEqual(told, self.lying_by(yard, until, arcs, flow))
            self.assertTrue(all(moment + yard[1][pipe][2] <= until for moment, pipe, amount in plan))
            self.assertEqual(plan, sorted(plan))
        self.assertGreater(lettings, 400)


if __name__ == "__main__":
    unittest.main()
