"""Point 22: the cheapest plan that meets wants at a moment, its price and its heights."""

import random
import unittest

from vatyard.cheap import cheap_plan
from vatyard.gates import width
from vatyard.meeting import met_at
from vatyard.player import played, price_of

MOST = 10 ** 12
DEAREST = 10 ** 6

# from a to b by a dear, short way of its own, or for little through c
TWO_WAYS = (
    [("a", 9, 9), ("b", 9, 0), ("c", 9, 0)],
    [
        (0, 1, 1, 10, ("steady", 3)),
        (0, 2, 1, 2, ("steady", 2)),
        (2, 1, 2, 1, ("late", 4, 2)),
    ],
)


def copy_of(yard):
    return (list(yard[0]), list(yard[1]))


def some_gate(chance, most):
    wide = [chance.randint(1, most) for again in range(2)]
    return chance.choice([
        ("steady", wide[0]), ("late", wide[0], chance.randint(0, 20)), ("tidal", *wide, chance.randint(2, 20)),
    ])


def some_yard(chance, vats, pipes, most, narrow, far, dear):
    """A ring of pipes through all vats, and others; so that most wants can be met."""
    told = ([], [])
    for name in "abcdefghijkl"[:vats]:
        room = chance.randint(0, most)
        told[0].append((name, room, chance.choice((0, room, chance.randint(0, room)))))
    for number in range(pipes):
        start, goal = chance.sample(range(vats), 2) if number >= vats else (number, (number + 1) % vats)
        gate = some_gate(chance, max(most // narrow, 1))
        told[1].append((start, goal, chance.randint(1, far), chance.randint(0, dear), gate))
    return told


class OfCheapPlans(unittest.TestCase):
    def check_form(self, yard, plan, until):
        self.assertIs(type(plan), list)
        self.assertTrue(all(type(letting) is tuple and len(letting) == 3 for letting in plan))
        places = [letting[:2] for letting in plan]
        self.assertEqual(places, sorted(set(places)))
        for moment, pipe, amount in plan:
            self.assertIs(type(amount), int)
            self.assertGreaterEqual(amount, 1)
            self.assertLessEqual(moment + yard[1][pipe][2], until)

    def check_heights(self, yard, wants, plan, heights, until):
        """Each sentence of the point, in its order."""
        self.assertIs(type(heights), list)
        self.assertEqual(len(heights), until + 1)
        for row in heights:
            self.assertIs(type(row), list)
            self.assertEqual([type(height) for height in row], [int] * len(yard[0]))
        self.assertEqual(len({id(row) for row in heights}), until + 1)
        lying = played(yard, plan, until)
        for vat, (name, room, fill) in enumerate(yard[0]):
            for moment in range(until):
                if lying[moment][vat] < room:
                    self.assertLessEqual(heights[moment + 1][vat], heights[moment][vat])
                if lying[moment][vat] > 0:
                    self.assertGreaterEqual(heights[moment + 1][vat], heights[moment][vat])
        entered = {letting[:2]: letting[2] for letting in plan}
        for number, (start, goal, length, price, gate) in enumerate(yard[1]):
            for moment in range(until - length + 1):
                amount = entered.get((moment, number), 0)
                rise = heights[moment + length][goal] - heights[moment][start]
                if amount < width(gate, moment):
                    self.assertLessEqual(rise, price)
                if amount > 0:
                    self.assertGreaterEqual(rise, price)
        for vat, (name, room, fill) in enumerate(yard[0]):
            if lying[until][vat] < room:
                self.assertGreaterEqual(heights[until][vat], 0)
            if lying[until][vat] > wants[vat]:
                self.assertLessEqual(heights[until][vat], 0)

    def check(self, yard, wants, until):
        """Checks an answer by itself; tells the price, or None."""
        handed = (copy_of(yard), list(wants))
        told = cheap_plan(handed[0], handed[1], until)
        self.assertEqual(handed, (yard, wants))
        met = met_at(yard, wants, until)
        if told is None:
            self.assertEqual(met[0], "shut")
            return None
        self.assertEqual(met[0], "plan")
        self.assertIs(type(told), tuple)
        plan, price, heights = told
        self.check_form(yard, plan, until)
        last = played(yard, plan, until)[until]
        self.assertTrue(all(held >= want for held, want in zip(last, wants)))
        self.assertIs(type(price), int)
        self.assertEqual(price, price_of(yard, plan))
        self.assertLessEqual(price, price_of(yard, met[1]))
        self.check_heights(yard, wants, plan, heights, until)
        return price


class CheapPlan(OfCheapPlans):
    def test_none_where_the_wants_can_not_be_met(self):
        self.assertIsNone(self.check(TWO_WAYS, [0, 1, 0], 0))
        self.assertIsNone(self.check(TWO_WAYS, [0, 4, 0], 1))
        self.assertIsNone(self.check(TWO_WAYS, [0, 7, 0], 2))
        self.assertIsNone(self.check(TWO_WAYS, [9, 1, 0], 60))
        self.assertIsNone(self.check(([("a", 9, 3)], []), [4], 60))

    def test_wants_that_are_met_already(self):
        for wants in ([0, 0, 0], [9, 0, 0], [4, 0, 0]):
            for until in (0, 1, 2, 20, 60):
                self.assertEqual(cheap_plan(TWO_WAYS, wants, until)[:2], ([], 0))
                self.check(TWO_WAYS, wants, until)
        alone = ([("a", 9, 3)], [])
        for until in (0, 1, 60):
            self.assertEqual(self.check(alone, [3], until), 0)
            self.assertEqual(cheap_plan(alone, [0], until)[:2], ([], 0))

    def test_at_moment_0(self):
        self.assertEqual(cheap_plan(([("a", 9, 3), ("b", 0, 0), ("c", 4, 4)], []), [1, 0, 2], 0)[:2], ([], 0))
        self.check(([("a", 9, 3), ("b", 0, 0), ("c", 4, 4)], []), [1, 0, 2], 0)
        self.check(([("a", 9, 3), ("b", 0, 0), ("c", 4, 4)], []), [3, 0, 4], 0)

    def test_a_dear_way_and_a_cheap_one(self):
        # the cheap way lets on from 2, so that nothing of it comes by 3
        for until in (1, 2, 3):
            self.assertEqual(self.check(TWO_WAYS, [0, 3, 0], until), 30)
        # by 4 there came just 4 by it, let in at 0 and 1
        self.assertEqual(self.check(TWO_WAYS, [0, 3, 0], 4), 9)
        self.assertEqual(self.check(TWO_WAYS, [0, 4, 0], 4), 12)
        self.assertEqual(self.check(TWO_WAYS, [0, 5, 0], 4), 12 + 10)
        self.assertEqual(self.check(TWO_WAYS, [0, 9, 0], 4), 12 + 50)
        self.assertEqual(self.check(TWO_WAYS, [0, 5, 0], 5), 15)
        self.assertEqual(self.check(TWO_WAYS, [0, 9, 0], 5), 18 + 30)
        self.assertEqual(self.check(TWO_WAYS, [0, 9, 0], 7), 27)
        self.assertEqual(self.check(TWO_WAYS, [0, 9, 0], 60), 27)

    def test_the_only_cheapest_plan(self):
        told = cheap_plan(TWO_WAYS, [0, 5, 0], 4)[0]
        by_pipes = [sum(amount for moment, pipe, amount in told if pipe == number) for number in range(3)]
        self.assertEqual(by_pipes, [1, 4, 4])
        yard = ([("a", 5, 5), ("b", 5, 0)], [(0, 1, 2, 7, ("steady", 5)), (0, 1, 2, 6, ("steady", 5))])
        self.assertEqual(cheap_plan(yard, [0, 5], 2)[:2], ([(0, 1, 5)], 30))
        self.check(yard, [0, 5], 2)
        turned = (yard[0], yard[1][::-1])
        self.assertEqual(cheap_plan(turned, [0, 5], 2)[:2], ([(0, 0, 5)], 30))

    def test_what_is_wanted_of_one_vat_is_not_left_in_another(self):
        # it would cost less to bring c's share to b, which has room enough
        pipes = [(0, 1, 1, 1, ("steady", 9)), (0, 2, 1, 50, ("steady", 9)), (2, 0, 1, 0, ("steady", 9))]
        yard = ([("a", 9, 9), ("b", 9, 0), ("c", 9, 0)], pipes)
        self.assertEqual(self.check(yard, [0, 2, 3], 5), 2 + 150)
        self.assertEqual(self.check(yard, [4, 0, 5], 5), 250)
        self.assertEqual(self.check(yard, [0, 9, 0], 1), 9)

    def test_rooms_that_drive_buckets_on(self):
        # nothing can be kept in b as long as two come to it, and none of it may be lost
        pipes = [(0, 1, 1, 5, ("steady", 2)), (1, 2, 1, 5, ("steady", 2)), (0, 2, 3, 20, ("steady", 1))]
        yard = ([("a", 6, 6), ("b", 0, 0), ("c", 6, 0)], pipes)
        self.assertEqual(self.check(yard, [0, 0, 6], 4), 60)
        narrow = (yard[0], [pipes[0], (1, 2, 1, 5, ("tidal", 1, 2, 2)), pipes[2]])
        # by 4: at the moments 1, 2 and 3 pass 2, 1 and 2, and one goes the other way
        self.assertEqual(self.check(narrow, [0, 0, 6], 4), 70)
        self.assertEqual(self.check(narrow, [0, 0, 6], 5), 60)

    def test_prices_of_0(self):
        yard = ([vat for vat in TWO_WAYS[0]], [pipe[:3] + (0,) + pipe[4:] for pipe in TWO_WAYS[1]])
        for wants, until in (([0, 3, 0], 1), ([0, 9, 0], 4), ([0, 0, 0], 9), ([0, 4, 5], 60)):
            self.assertEqual(self.check(yard, wants, until), 0)
        # for nothing by the long way
        mixed = (TWO_WAYS[0], [TWO_WAYS[1][0]] + yard[1][1:])
        self.assertEqual(self.check(mixed, [0, 9, 0], 60), 0)
        self.assertEqual(self.check(mixed, [0, 9, 0], 4), 50)

    def test_it_never_costs_more_to_wait(self):
        prices = [self.check(TWO_WAYS, [0, 9, 0], until) for until in range(3, 30)]
        self.assertEqual(prices, sorted(prices, reverse=True))
        self.assertEqual(prices[0], 90)

    def test_the_greatest_numbers(self):
        pipes = [(0, 1, 20, DEAREST, ("steady", MOST)), (0, 1, 20, DEAREST - 1, ("late", MOST - 1, 20))]
        yard = ([("a", MOST, MOST), ("b", MOST, 0)], pipes)
        self.assertEqual(self.check(yard, [0, MOST], 20), DEAREST * MOST)
        self.assertEqual(self.check(yard, [0, MOST], 40), (DEAREST - 1) * MOST + 1)
        self.assertEqual(self.check(yard, [0, MOST], 60), (DEAREST - 1) * MOST)

    def test_12_vats_and_24_pipes(self):
        seen = {"none": 0, "free": 0, "paid": 0}
        for seed in range(40):
            chance = random.Random(seed)
            most = chance.choice((5, 100, MOST))
            dear = chance.choice((0, 3, 100, DEAREST, DEAREST))
            yard = some_yard(chance, 12, 24, most, chance.choice((1, 10, 30)), chance.choice((1, 3, 20)), dear)
            wants = [chance.randint(0, vat[1]) for vat in yard[0]]
            while sum(wants) > sum(vat[2] for vat in yard[0]) * chance.choice((5, 8, 10)) // 10:
                vat = chance.randrange(12)
                wants[vat] = wants[vat] * 3 // 4
            price = self.check(yard, wants, chance.choice((60, 60, 40, 15)))
            seen["none" if price is None else "paid" if price > 0 else "free"] += 1
        self.assertGreater(min(seen.values()), 3)

    def test_no_plan_by_chance_is_cheaper(self):
        # plans for wants that ask for more meet the lesser wants too
        for seed in range(10):
            chance = random.Random(seed)
            yard = some_yard(chance, 6, 14, 20, 4, 3, 50)
            wants = [vat[1] // 4 for vat in yard[0]]
            until = chance.randint(10, 25)
            price = self.check(yard, wants, until)
            for again in range(10):
                more = [chance.randint(want, max(want, vat[1] // 2)) for want, vat in zip(wants, yard[0])]
                told = met_at(yard, more, until)
                if told[0] == "plan":
                    self.assertLessEqual(price, price_of(yard, told[1]))

    def test_lists_told_are_new_ones(self):
        for wants, until in (([0, 0, 0], 0), ([0, 0, 0], 5), ([0, 9, 0], 6)):
            first = cheap_plan(TWO_WAYS, wants, until)
            second = cheap_plan(TWO_WAYS, wants, until)
            self.assertEqual(first, second)
            lists = [part for told in (first, second) for part in [told[0], told[2]] + told[2]]
            self.assertEqual(len({id(part) for part in lists}), 2 * (until + 3))
            first[0].append(77)
            first[2][0].append(77)
            first[2].append(77)
            self.assertEqual(cheap_plan(TWO_WAYS, wants, until), second)


if __name__ == "__main__":
    unittest.main()
