"""Points 15 to 17: parts, wants met at a moment, and the most that can lie in a vat."""

import random
import unittest

from vatyard.meeting import lets_in, met_at, most_at
from vatyard.nets import net, spot
from vatyard.player import Play, played

MOST = 10 ** 12

# a to b to c, and c to a; a second, long way from a to c
ROW = (
    [("a", 10, 8), ("b", 4, 1), ("c", 20, 0)],
    [
        (0, 1, 1, 7, ("steady", 3)),
        (1, 2, 2, 0, ("tidal", 5, 2, 2)),
        (0, 2, 4, 9, ("late", 6, 1)),
        (2, 0, 1, 1, ("steady", 100)),
    ],
)


def copy_of(yard):
    return (list(yard[0]), list(yard[1]))


def all_spots(yard, until):
    return [(moment, vat) for moment in range(until + 1) for vat in range(len(yard[0]))]


def cut(yard, part, until):
    """What a part lets in, by the arcs of the net that lead into it."""
    return sum(
        most
        for start, goal, most in net(yard, [0] * len(yard[0]), until)[1]
        if goal > 1 and spot(yard, goal) in part and (start == 0 or spot(yard, start) not in part)
    )


class LetsIn(unittest.TestCase):
    def test_without_spots(self):
        self.assertEqual(lets_in(ROW, [], 0), 0)
        self.assertEqual(lets_in(ROW, [], 60), 0)

    def test_all_spots(self):
        for until in (0, 1, 5, 60):
            self.assertEqual(lets_in(ROW, all_spots(ROW, until), until), 9)

    def test_a_spot_at_0(self):
        for vat, fill in enumerate((8, 1, 0)):
            for until in (0, 1, 60):
                self.assertEqual(lets_in(ROW, [(0, vat)], until), fill)
        self.assertEqual(lets_in(ROW, [(0, 0), (0, 1)], 3), 9)

    def test_a_later_spot(self):
        # the room, and what each pipe lets in by which it comes just then
        self.assertEqual(lets_in(ROW, [(1, 0)], 1), 10 + 100)
        self.assertEqual(lets_in(ROW, [(1, 1)], 1), 4 + 3)
        self.assertEqual(lets_in(ROW, [(1, 2)], 1), 20)
        self.assertEqual(lets_in(ROW, [(2, 2)], 3), 20 + 5)
        self.assertEqual(lets_in(ROW, [(3, 2)], 3), 20 + 2)
        self.assertEqual(lets_in(ROW, [(4, 2)], 4), 20 + 5 + 0)
        self.assertEqual(lets_in(ROW, [(5, 2)], 60), 20 + 2 + 6)
        self.assertEqual(lets_in(ROW, [(60, 2)], 60), 20 + 5 + 6)

    def test_a_vat_that_was_of_it_one_moment_ahead(self):
        self.assertEqual(lets_in(ROW, [(0, 1), (1, 1), (2, 1)], 2), 1 + 3 + 3)
        self.assertEqual(lets_in(ROW, [(0, 1), (2, 1)], 2), 1 + 4 + 3)
        self.assertEqual(lets_in(ROW, [(1, 1), (2, 1)], 2), 4 + 3 + 3)

    def test_pipes_from_inside(self):
        self.assertEqual(lets_in(ROW, [(0, 0), (1, 1)], 1), 8 + 4)
        self.assertEqual(lets_in(ROW, [(0, 0), (2, 1)], 2), 8 + 4 + 3)
        self.assertEqual(lets_in(ROW, [(1, 0), (5, 2)], 5), 10 + 100 + 20 + 2)
        self.assertEqual(lets_in(ROW, [(3, 1), (5, 2)], 5), 4 + 3 + 20 + 6)
        self.assertEqual(lets_in(ROW, [(1, 0), (3, 1), (5, 2)], 5), 10 + 100 + 4 + 3 + 20)

    def test_a_pipe_that_leads_out_of_it(self):
        self.assertEqual(lets_in(ROW, [(0, 0), (1, 0)], 2), 8 + 100)

    def test_pipes_alike(self):
        pipes = [(0, 1, 2, 0, ("steady", 3)), (0, 1, 2, 0, ("steady", 3)), (0, 1, 1, 0, ("late", 7, 1))]
        yard = ([("a", 9, 0), ("b", 9, 0)], pipes)
        self.assertEqual(lets_in(yard, [(2, 1)], 2), 9 + 3 + 3 + 7)
        self.assertEqual(lets_in(yard, [(1, 1)], 2), 9)
        self.assertEqual(lets_in(yard, [(0, 0), (2, 1)], 2), 9 + 7)
        self.assertEqual(lets_in(yard, [(1, 0), (2, 1)], 2), 9 + 9 + 3 + 3)

    def test_no_more_comes_ahead_of_moment_0(self):
        yard = ([("a", 9, 9), ("b", 9, 0)], [(0, 1, 20, 0, ("steady", 3))])
        self.assertEqual(lets_in(yard, [(19, 1)], 19), 9)
        self.assertEqual(lets_in(yard, [(20, 1)], 20), 12)

    def test_nothing_handed_in_is_changed(self):
        yard = copy_of(ROW)
        part = [(0, 1), (2, 0), (2, 1)]
        self.assertEqual(lets_in(yard, part, 2), lets_in(yard, part, 2))
        self.assertEqual((yard, part), (ROW, [(0, 1), (2, 0), (2, 1)]))


class OfPlans(unittest.TestCase):
    def check_plan(self, yard, plan, until):
        """The form of point 16; tells what lies in the vats at last."""
        self.assertIs(type(plan), list)
        self.assertTrue(all(type(letting) is tuple and len(letting) == 3 for letting in plan))
        places = [(moment, pipe) for moment, pipe, amount in plan]
        self.assertEqual(places, sorted(set(places)))
        for moment, pipe, amount in plan:
            self.assertIs(type(amount), int)
            self.assertGreaterEqual(amount, 1)
            self.assertLessEqual(moment + yard[1][pipe][2], until)
        return played(yard, plan, until)[until]

    def check_part(self, yard, part, until):
        self.assertIs(type(part), list)
        self.assertEqual(part, sorted(set(part)))
        self.assertTrue(set(part) <= set(all_spots(yard, until)))
        self.assertTrue(all(type(place) is tuple for place in part))
        self.assertEqual(lets_in(yard, part, until), cut(yard, part, until))

    def check_met(self, yard, wants, until):
        handed = (copy_of(yard), list(wants))
        told = met_at(handed[0], handed[1], until)
        self.assertEqual(handed, (yard, wants))
        self.assertIs(type(told), tuple)
        self.assertEqual(len(told), 2)
        if told[0] == "plan":
            last = self.check_plan(yard, told[1], until)
            self.assertTrue(all(held >= want for held, want in zip(last, wants)))
        else:
            self.assertEqual(told[0], "shut")
            self.check_part(yard, told[1], until)
            wanted = sum(wants[vat] for moment, vat in told[1] if moment == until)
            self.assertLess(lets_in(yard, told[1], until), wanted)
        return told[0]

    def check_most(self, yard, vat, until):
        handed = copy_of(yard)
        told = most_at(handed, vat, until)
        self.assertEqual(handed, yard)
        self.assertIs(type(told), tuple)
        amount, plan, part = told
        self.assertIs(type(amount), int)
        self.assertEqual(self.check_plan(yard, plan, until)[vat], amount)
        self.check_part(yard, part, until)
        if amount < yard[0][vat][1]:
            self.assertIn((until, vat), part)
            self.assertEqual(lets_in(yard, part, until), amount)
        else:
            self.assertEqual(amount, yard[0][vat][1])
            self.assertEqual(part, [])
        return amount


class MetAt(OfPlans):
    def test_met_at_0(self):
        for wants in ([0, 0, 0], [8, 1, 0], [3, 0, 0]):
            for until in (0, 1, 7, 60):
                with self.subTest(wants=wants, until=until):
                    self.assertEqual(self.check_met(ROW, wants, until), "plan")
            self.assertEqual(met_at(ROW, wants, 0), ("plan", []))

    def test_not_met_at_0(self):
        for wants in ([9, 0, 0], [0, 2, 0], [0, 0, 1], [10, 4, 20]):
            with self.subTest(wants=wants):
                self.assertEqual(self.check_met(ROW, wants, 0), "shut")

    def test_met_just_at_a_moment_and_not_one_earlier(self):
        # from a at 0 to b, and on at 1 by the tide's 2, with b's own one let on at 0
        firsts = {(0, 4, 0): 1, (0, 0, 1): 2, (0, 0, 2): 3, (0, 0, 3): 3, (0, 0, 4): 4, (0, 3, 3): 3, (9, 0, 0): 3}
        for wants, first in firsts.items():
            for until in range(8):
                with self.subTest(wants=wants, until=until):
                    told = self.check_met(ROW, list(wants), until)
                    self.assertEqual(told, "plan" if until >= first else "shut")

    def test_met_just_by_a_gate(self):
        late = ([("a", 5, 5), ("b", 5, 0)], [(0, 1, 3, 0, ("late", 2, 4))])
        tidal = ([("a", 9, 9), ("b", 9, 0)], [(0, 1, 1, 0, ("tidal", 4, 1, 3))])
        for yard, amount, first in ((late, 1, 7), (late, 2, 7), (late, 3, 8), (late, 5, 9), (tidal, 4, 1),
                                    (tidal, 5, 2), (tidal, 6, 3), (tidal, 7, 4), (tidal, 9, 4)):
            with self.subTest(yard=yard, amount=amount):
                self.assertEqual(self.check_met(yard, [0, amount], first), "plan")
                self.assertEqual(self.check_met(yard, [0, amount], first - 1), "shut")

    def test_met_where_nothing_must_be_lost(self):
        # the way leads through a vat without room, and what was there must be kept as well
        vats = [("a", 6, 6), ("b", 0, 0), ("c", 6, 0), ("d", 3, 3)]
        yard = (vats, [(0, 1, 1, 0, ("steady", 3)), (1, 2, 1, 0, ("steady", 2)), (3, 2, 1, 0, ("steady", 1))])
        self.assertEqual(self.check_met(yard, [0, 0, 6, 3], 3), "shut")
        self.assertEqual(self.check_met(yard, [0, 0, 6, 3], 4), "plan")
        self.assertEqual(self.check_met(yard, [0, 0, 6, 1], 3), "plan")

    def test_never_met(self):
        for wants in ([10, 0, 0], [0, 0, 10], [8, 2, 0], [10, 4, 20]):
            for until in (0, 1, 2, 20, 60):
                with self.subTest(wants=wants, until=until):
                    self.assertEqual(self.check_met(ROW, wants, until), "shut")
        apart = ([("a", 9, 9), ("b", 9, 0)], [(1, 0, 1, 0, ("steady", 9))])
        self.assertEqual(self.check_met(apart, [0, 1], 60), "shut")
        self.assertEqual(self.check_met(([("a", 9, 8)], []), [9], 60), "shut")
        self.assertEqual(self.check_met(([("a", 9, 8)], []), [8], 60), "plan")

    def test_the_only_plan(self):
        yard = ([("a", 5, 5), ("b", 5, 0)], [(0, 1, 2, 0, ("steady", 5))])
        self.assertEqual(met_at(yard, [0, 5], 2), ("plan", [(0, 0, 5)]))
        self.assertEqual(met_at(yard, [0, 5], 1)[0], "shut")

    def test_the_greatest_numbers(self):
        wide = ("steady", MOST)
        yard = ([("a", MOST, MOST), ("b", 0, 0), ("c", MOST, 0)], [(0, 1, 20, 0, wide), (1, 2, 20, 0, wide)])
        self.assertEqual(met_at(yard, [0, 0, MOST], 40), ("plan", [(0, 0, MOST), (20, 1, MOST)]))
        self.assertEqual(self.check_met(yard, [0, 0, MOST], 39), "shut")

    def test_lists_told_are_new_ones(self):
        for wants, until in (([0, 0, 0], 0), ([0, 0, 2], 4), ([0, 0, 2], 1), ([8, 2, 0], 9)):
            first = met_at(ROW, wants, until)
            second = met_at(ROW, wants, until)
            self.assertEqual(first, second)
            first[1].append(77)
            self.assertNotEqual(first, second)
            self.assertEqual(met_at(ROW, wants, until), second)


class MostAt(OfPlans):
    def test_at_0_it_is_the_fill(self):
        self.assertEqual(most_at(ROW, 0, 0)[:2], (8, []))
        for vat, fill in enumerate((8, 1, 0)):
            self.assertEqual(self.check_most(ROW, vat, 0), fill)

    def test_where_the_room_is_the_bound(self):
        self.assertEqual(most_at(ROW, 1, 1)[0::2], (4, []))
        for until in (1, 2, 7, 60):
            self.assertEqual(self.check_most(ROW, 1, until), 4)

    def test_where_it_is_not(self):
        # b's own one by 2, two more by the tide's low by 3, four by its high by 4, which is all that came to b
        mosts = [0, 0, 1, 3, 7, 9, 9]
        for until, most in enumerate(mosts):
            with self.subTest(until=until):
                self.assertEqual(self.check_most(ROW, 2, until), most)
        self.assertEqual(self.check_most(ROW, 2, 60), 9)
        self.assertEqual(self.check_most(ROW, 0, 2), 8)
        self.assertEqual(self.check_most(ROW, 0, 3), 9)

    def test_a_vat_that_nothing_comes_to(self):
        yard = ([("a", 9, 4), ("b", 9, 9)], [(0, 1, 1, 0, ("steady", 3))])
        for until in (0, 1, 60):
            self.assertEqual(self.check_most(yard, 0, until), 4)
            self.assertEqual(self.check_most(([("a", 9, 4)], []), 0, until), 4)
            self.assertEqual(self.check_most(([("a", 4, 4)], []), 0, until), 4)

    def test_a_vat_without_room(self):
        yard = ([("a", 9, 4), ("b", 0, 0)], [(0, 1, 1, 0, ("steady", 3))])
        for until in (0, 1, 60):
            self.assertEqual(self.check_most(yard, 1, until), 0)
            self.assertEqual(most_at(yard, 1, until)[2], [])

    def test_the_most_is_just_the_room(self):
        yard = ([("a", 9, 4), ("b", 6, 2)], [(0, 1, 1, 0, ("steady", 3))])
        self.assertEqual([self.check_most(yard, 1, until) for until in range(4)], [2, 5, 6, 6])

    def test_the_greatest_numbers(self):
        yard = ([("a", MOST, MOST), ("b", MOST, 0)], [(0, 1, 1, 0, ("tidal", 1, MOST, 2))])
        self.assertEqual(self.check_most(yard, 1, 1), 1)
        self.assertEqual(self.check_most(yard, 1, 2), MOST)

    def test_lists_told_are_new_ones(self):
        for vat, until in ((0, 0), (1, 4), (2, 4)):
            first = most_at(ROW, vat, until)
            second = most_at(ROW, vat, until)
            self.assertEqual(first, second)
            lists = [first[1], first[2], second[1], second[2]]
            self.assertEqual(len({id(part) for part in lists}), 4)
            first[1].append(77)
            first[2].append(77)
            self.assertEqual(most_at(ROW, vat, until), second)


class GreatYards(OfPlans):
    def some_yard(self, chance, most):
        vats = []
        for name in "abcdefghijkl":
            room = chance.randint(0, most)
            vats.append((name, room, chance.randint(0, room)))
        pipes = []
        for number in range(24):
            start, goal = chance.sample(range(12), 2)
            wide = [chance.randint(1, most) for again in range(2)]
            gate = chance.choice([
                ("steady", wide[0]), ("late", wide[0], chance.randint(0, 60)), ("tidal", *wide, chance.randint(2, 20)),
            ])
            pipes.append((start, goal, chance.choice((1, 2, chance.randint(1, 20))), 0, gate))
        return (vats, pipes)

    def test_12_vats_and_24_pipes(self):
        seen = {}
        for seed in range(24):
            chance = random.Random(seed)
            yard = self.some_yard(chance, chance.choice((5, 1000, MOST)))
            wants = [chance.randint(0, room) for name, room, fill in yard[0]]
            # far from all that lies there, so that it can be met or not
            while sum(wants) > sum(fill for name, room, fill in yard[0]) * seed // 24:
                wants = [want * 3 // 4 for want in wants]
            for until in (0, chance.randint(1, 59), 60):
                told = self.check_met(yard, wants, until)
                seen[told, until] = True
                self.check_most(yard, chance.randrange(12), until)
        for kind in (("plan", 60), ("shut", 60), ("shut", 0)):
            self.assertIn(kind, seen)

    def test_what_is_met_stays_met(self):
        for seed in range(4):
            chance = random.Random(100 + seed)
            yard = self.some_yard(chance, 1000)
            wants = [min(room, chance.randint(0, 100)) for name, room, fill in yard[0]]
            told = [self.check_met(yard, wants, until) for until in range(0, 61, 4)]
            self.assertEqual(told, sorted(told, reverse=True))

    def test_any_plan_against_any_part(self):
        for seed in range(12):
            chance = random.Random(seed)
            yard = self.some_yard(chance, 9)
            until = chance.randint(1, 20)
            plan = greedy_plan(chance, yard, until)
            last = played(yard, plan, until)[until]
            for share in (0.1, 0.5, 0.8, 0.95, 0.99):
                part = [place for place in all_spots(yard, until) if chance.random() < share]
                self.check_part(yard, part, until)
                held = sum(last[vat] for moment, vat in part if moment == until)
                self.assertLessEqual(held, lets_in(yard, part, until))


def greedy_plan(chance, yard, until):
    """A plan that leaves much under way at last, and lets in only what finds room whatever else comes."""
    play = Play(yard)
    plan = []
    spoken_for = play.holds()
    while play.now() < until:
        for pipe in chance.sample(range(len(yard[1])), len(yard[1])):
            start, goal = yard[1][pipe][:2]
            amount = min(play.room_in(pipe), play.holds()[start], yard[0][goal][1] - spoken_for[goal])
            if amount > 0:
                plan.append((play.now(), pipe, amount))
                play.let(pipe, amount)
                spoken_for[start] -= amount
                spoken_for[goal] += amount
        play.go_on()
    return plan


if __name__ == "__main__":
    unittest.main()
