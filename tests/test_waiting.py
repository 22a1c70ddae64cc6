"""Points 18 to 20: vats that are cut off, the moment that is surely enough, and the soonest one."""

import random
import unittest

from vatyard.meeting import lets_in, met_at
from vatyard.player import played
from vatyard.waiting import cut_off, soonest, surely

MOST = 10 ** 12

# a and b lead to one another, c leads to d, nothing leads from the ones to the others
PAIRS = (
    [("a", 9, 4), ("b", 9, 1), ("c", 9, 5), ("d", 9, 2)],
    [
        (0, 1, 1, 0, ("steady", 2)),
        (1, 0, 3, 0, ("steady", 1)),
        (2, 3, 2, 0, ("late", 3, 4)),
    ],
)


def copy_of(yard):
    return (list(yard[0]), list(yard[1]))


def is_cut_off(yard, vats):
    return all(pipe[0] in vats for pipe in yard[1] if pipe[1] in vats)


def lacks(yard, wants, vats):
    return sum(wants[vat] for vat in vats) > sum(yard[0][vat][2] for vat in vats)


def some_gate(chance, most, late):
    wide = [chance.randint(1, most) for again in range(2)]
    return chance.choice([
        ("steady", wide[0]), ("late", wide[0], chance.randint(0, late)), ("tidal", *wide, chance.randint(2, 20)),
    ])


def some_yard(chance, vats, pipes, most, far=20, late=60):
    told = ([], [])
    for name in "abcdefghijkl"[:vats]:
        room = chance.randint(0, most)
        told[0].append((name, room, chance.randint(0, room)))
    for number in range(pipes if vats > 1 else 0):
        start, goal = chance.sample(range(vats), 2)
        told[1].append((start, goal, chance.randint(1, far), 0, some_gate(chance, most, late)))
    return told


def some_wants(chance, yard, share):
    """Wants of about such a share, in hundredths, of all that there is."""
    wants = [chance.randint(0, vat[1]) for vat in yard[0]]
    while sum(wants) * 100 > sum(vat[2] for vat in yard[0]) * share:
        wants = [want * 4 // 5 for want in wants]
    return wants


class CutOff(unittest.TestCase):
    def check(self, yard, wants):
        handed = (copy_of(yard), list(wants))
        told = cut_off(handed[0], handed[1])
        self.assertEqual(handed, (yard, wants))
        if told is not None:
            self.assertIs(type(told), list)
            self.assertTrue(all(type(vat) is int for vat in told))
            self.assertEqual(told, sorted(set(told)))
            self.assertTrue(set(told) <= set(range(len(yard[0]))))
            self.assertTrue(is_cut_off(yard, told))
            self.assertTrue(lacks(yard, wants, told))
        return told

    def test_without_pipes(self):
        yard = ([("a", 9, 3), ("b", 9, 0), ("c", 0, 0)], [])
        self.assertIsNone(self.check(yard, [3, 0, 0]))
        self.assertIsNone(self.check(yard, [0, 0, 0]))
        self.assertIn(0, self.check(yard, [4, 0, 0]))
        self.assertIn(1, self.check(yard, [0, 1, 0]))
        self.assertIsNotNone(self.check(yard, [9, 9, 0]))

    def test_one_vat(self):
        self.assertIsNone(self.check(([("a", 9, 3)], []), [3]))
        self.assertEqual(self.check(([("a", 9, 3)], []), [4]), [0])
        self.assertEqual(self.check(([("a", 9, 0)], []), [1]), [0])
        self.assertIsNone(self.check(([("a", 0, 0)], []), [0]))

    def test_a_vat_alone(self):
        # nothing leads to c
        self.assertIsNone(self.check(PAIRS, [0, 0, 5, 0]))
        told = self.check(PAIRS, [0, 0, 6, 0])
        self.assertIn(2, told)
        self.assertIn(2, self.check(PAIRS, [0, 0, 9, 0]))

    def test_cut_off_only_together(self):
        self.assertIsNone(self.check(PAIRS, [5, 0, 0, 0]))
        self.assertIsNone(self.check(PAIRS, [0, 5, 0, 0]))
        for wants in ([4, 2, 0, 0], [5, 1, 0, 0], [0, 6, 0, 0], [6, 0, 0, 0]):
            with self.subTest(wants=wants):
                told = self.check(PAIRS, wants)
                self.assertTrue({0, 1} <= set(told))

    def test_pipes_lead_from_it_but_none_to_it(self):
        yard = ([("a", 9, 2), ("b", 9, 7)], [(0, 1, 1, 0, ("steady", 9)), (0, 1, 20, 0, ("steady", 9))])
        self.assertIsNone(self.check(yard, [2, 7]))
        self.assertIsNone(self.check(yard, [0, 9]))
        self.assertEqual(self.check(yard, [3, 0]), [0])
        self.assertEqual(self.check(yard, [3, 6]), [0])
        self.assertEqual(self.check(yard, [1, 9]), [0, 1])

    def test_all_vats_together(self):
        ring = [(0, 1, 1, 0, ("steady", 1)), (1, 2, 1, 0, ("steady", 1)), (2, 0, 1, 0, ("steady", 1))]
        yard = ([("a", 9, 2), ("b", 9, 3), ("c", 9, 4)], ring)
        for wants in ([9, 0, 0], [0, 9, 0], [0, 0, 9], [3, 3, 3]):
            self.assertIsNone(self.check(yard, wants))
        for wants in ([9, 1, 0], [1, 9, 0], [0, 1, 9], [4, 3, 3]):
            self.assertEqual(self.check(yard, wants), [0, 1, 2])

    def test_wants_that_just_come_to_the_fills_and_one_more(self):
        self.assertIsNone(self.check(PAIRS, [4, 1, 5, 2]))
        self.assertIsNone(self.check(PAIRS, [1, 4, 0, 7]))
        for vat in range(4):
            wants = [4, 1, 5, 2]
            wants[vat] += 1
            self.assertIn(vat, self.check(PAIRS, wants))

    def test_gates_and_lengths_change_nothing(self):
        seen = []
        for seed in range(200):
            chance = random.Random(seed)
            yard = some_yard(chance, chance.randint(2, 5), chance.randint(0, 6), 9)
            wants = [chance.randint(0, vat[1]) for vat in yard[0]]
            told = self.check(yard, wants)
            narrow = [pipe[:2] + (20, 9, ("late", 1, 60)) for pipe in yard[1]]
            wide = [pipe[:2] + (1, 0, ("steady", MOST)) for pipe in yard[1]]
            for pipes in (narrow, wide):
                self.assertEqual(self.check((yard[0], pipes), wants) is None, told is None)
            seen.append(told is None)
        self.assertGreater(min(seen.count(True), seen.count(False)), 20)

    def test_a_pipe_carries_all_that_there_is(self):
        # all of it passes through one pipe, and still the pipe cuts nothing off
        yard = ([("a", MOST, MOST), ("b", MOST, 0)], [(0, 1, 20, 0, ("late", 1, 60))])
        self.assertIsNone(self.check(yard, [0, MOST]))
        self.assertEqual(self.check(yard, [1, MOST]), [0, 1])
        full = ([(name, MOST, MOST) for name in "abcdefghijk"] + [("l", MOST, MOST)], [])
        self.assertIsNone(self.check(full, [MOST] * 12))

    def test_against_all_sets_of_vats(self):
        seen = []
        for seed in range(400):
            chance = random.Random(seed)
            size = chance.randint(1, 6)
            yard = some_yard(chance, size, chance.randint(0, 2 * size), chance.choice((3, 9, MOST)))
            wants = some_wants(chance, yard, chance.choice((50, 80, 100, 300)))
            sets = [[vat for vat in range(size) if bits >> vat & 1] for bits in range(2 ** size)]
            found = any(is_cut_off(yard, vats) and lacks(yard, wants, vats) for vats in sets)
            self.assertEqual(self.check(yard, wants) is not None, found, (yard, wants))
            seen.append(found)
        self.assertGreater(min(seen.count(True), seen.count(False)), 60)

    def test_12_vats_and_24_pipes_against_all_sets(self):
        seen = []
        for seed in range(16):
            chance = random.Random(seed)
            yard = some_yard(chance, 12, chance.randint(8, 24), MOST)
            wants = some_wants(chance, yard, chance.choice((20, 50, 90)))
            found = False
            for bits in range(2 ** 12):
                vats = [vat for vat in range(12) if bits >> vat & 1]
                found = found or (lacks(yard, wants, vats) and is_cut_off(yard, vats))
            self.assertEqual(self.check(yard, wants) is not None, found)
            seen.append(found)
        self.assertGreater(min(seen.count(True), seen.count(False)), 1)

    def test_lists_told_are_new_ones(self):
        first = cut_off(PAIRS, [9, 9, 9, 9])
        second = cut_off(PAIRS, [9, 9, 9, 9])
        self.assertEqual(first, second)
        first.append(77)
        self.assertEqual(cut_off(PAIRS, [9, 9, 9, 9]), second)


class Surely(unittest.TestCase):
    def test_no_late_gate(self):
        yard = ([("a", 9, 4), ("b", 9, 1)], [(0, 1, 3, 0, ("steady", 60)), (1, 0, 5, 0, ("tidal", 50, 40, 20))])
        self.assertEqual(surely(yard, [4, 1]), 0)
        self.assertEqual(surely(yard, [0, 0]), 0)
        self.assertEqual(surely(yard, [4, 2]), 8)
        self.assertEqual(surely(yard, [2, 3]), 16)
        self.assertEqual(surely(yard, [9, 9]), 13 * 8)

    def test_late_gates(self):
        pipes = [(0, 1, 3, 0, ("late", 50, 7)), (1, 0, 5, 0, ("steady", 40)), (0, 1, 20, 0, ("late", 1, 4))]
        yard = ([("a", 9, 4), ("b", 9, 1)], pipes)
        self.assertEqual(surely(yard, [4, 1]), 7)
        self.assertEqual(surely(yard, [0, 3]), 7 + 2 * 28)
        self.assertEqual(surely((yard[0], pipes[1:]), [0, 3]), 4 + 2 * 25)
        self.assertEqual(surely((yard[0], pipes[::-1]), [0, 3]), 7 + 2 * 28)
        at_once = (yard[0], [(0, 1, 3, 0, ("late", 50, 0))])
        self.assertEqual(surely(at_once, [0, 3]), 6)
        self.assertEqual(surely((yard[0], [(0, 1, 1, 0, ("late", 1, 60))]), [0, 2]), 61)

    def test_nothing_lacks(self):
        self.assertEqual(surely(PAIRS, [0, 0, 0, 0]), 4)
        self.assertEqual(surely(PAIRS, [4, 1, 5, 2]), 4)

    def test_what_is_left_over_elsewhere_does_not_count(self):
        self.assertEqual(surely(PAIRS, [0, 2, 0, 0]), 4 + 6)
        self.assertEqual(surely(PAIRS, [0, 2, 5, 4]), 4 + 3 * 6)

    def test_without_pipes(self):
        self.assertEqual(surely(([("a", 9, 4)], []), [4]), 0)
        self.assertEqual(surely(([("a", 9, 4)], []), [9]), 0)

    def test_where_no_plan_ever_meets_them(self):
        self.assertEqual(surely(PAIRS, [9, 9, 9, 9]), 4 + 24 * 6)

    def test_the_greatest_numbers(self):
        vats = [(name, MOST, 0) for name in "abcdefghijkl"]
        pipes = [(k % 12, (k + 1) % 12, 20, 1000000, ("late", MOST, 60)) for k in range(24)]
        self.assertEqual(surely((vats, pipes), [MOST] * 12), 60 + 12 * MOST * 480)
        self.assertEqual(surely((vats[:11] + [("l", MOST, MOST)], pipes), [MOST] * 12), 60 + 11 * MOST * 480)

    def test_some_yards(self):
        for seed in range(100):
            chance = random.Random(seed)
            yard = some_yard(chance, chance.randint(1, 12), chance.randint(0, 24), chance.choice((9, MOST)))
            wants = [chance.randint(0, vat[1]) for vat in yard[0]]
            late = [0] + [pipe[4][2] for pipe in yard[1] if pipe[4][0] == "late"]
            lacking = sum(want - vat[2] for vat, want in zip(yard[0], wants) if want > vat[2])
            handed = (copy_of(yard), list(wants))
            told = surely(handed[0], handed[1])
            self.assertIs(type(told), int)
            self.assertEqual(told, sorted(late)[-1] + lacking * sum(pipe[2] for pipe in yard[1]))
            self.assertEqual(handed, (yard, wants))


class OfSoonest(unittest.TestCase):
    def check_plan(self, yard, wants, plan, until):
        self.assertIs(type(plan), list)
        self.assertTrue(all(type(letting) is tuple and len(letting) == 3 for letting in plan))
        places = [letting[:2] for letting in plan]
        self.assertEqual(places, sorted(set(places)))
        for moment, pipe, amount in plan:
            self.assertGreaterEqual(amount, 1)
            self.assertLessEqual(moment + yard[1][pipe][2], until)
        last = played(yard, plan, until)[until]
        self.assertTrue(all(held >= want for held, want in zip(last, wants)))

    def check_part(self, yard, wants, part, until):
        self.assertIs(type(part), list)
        self.assertEqual(part, sorted(set(part)))
        for place in part:
            self.assertIs(type(place), tuple)
            self.assertTrue(0 <= place[0] <= until and 0 <= place[1] < len(yard[0]))
        wanted = sum(wants[vat] for moment, vat in part if moment == until)
        self.assertLess(lets_in(yard, part, until), wanted)

    def check(self, yard, wants, last):
        """Checks an answer by itself; tells its word and, where it is met, the moment."""
        handed = (copy_of(yard), list(wants))
        told = soonest(handed[0], handed[1], last)
        self.assertEqual(handed, (yard, wants))
        self.assertIs(type(told), tuple)
        vats = cut_off(yard, wants)
        if vats is not None:
            self.assertEqual(told, ("never", vats))
        elif told[0] == "met":
            word, moment, plan, part = told
            self.assertIs(type(moment), int)
            self.assertTrue(0 <= moment <= last)
            self.check_plan(yard, wants, plan, moment)
            if moment == 0:
                self.assertEqual((plan, part), ([], []))
            else:
                self.check_part(yard, wants, part, moment - 1)
            return told[:2]
        else:
            self.assertEqual((told[0], len(told)), ("later", 2))
            self.check_part(yard, wants, told[1], last)
        return told[:1]


class Soonest(OfSoonest):
    def test_met_at_0(self):
        for wants in ([0, 0, 0, 0], [4, 1, 5, 2], [3, 1, 0, 2]):
            for last in (0, 1, 7, 60):
                self.assertEqual(soonest(PAIRS, wants, last), ("met", 0, [], []))

    def test_met_at_a_moment(self):
        # b has one, and gets 2 a moment; d gets 3 a moment, from 6 on
        firsts = {(0, 2, 0, 0): 1, (0, 3, 0, 0): 1, (0, 4, 0, 0): 2, (0, 5, 0, 0): 2, (5, 0, 0, 0): 3,
                  (0, 0, 0, 3): 6, (0, 0, 0, 5): 6, (0, 0, 0, 6): 7, (0, 0, 0, 7): 7, (2, 3, 1, 6): 7}
        for wants, first in firsts.items():
            with self.subTest(wants=wants):
                self.assertEqual(self.check(PAIRS, list(wants), first), ("met", first))
                self.assertEqual(self.check(PAIRS, list(wants), first + 1), ("met", first))
                self.assertEqual(self.check(PAIRS, list(wants), 60), ("met", first))
                self.assertEqual(self.check(PAIRS, list(wants), first - 1), ("later",))
                self.assertEqual(self.check(PAIRS, list(wants), 0), ("later",))

    def test_met_at_60_and_later_than_60(self):
        yard = ([("a", 200, 200), ("b", 200, 0)], [(0, 1, 20, 0, ("steady", 3))])
        self.assertEqual(self.check(yard, [0, 123], 60), ("met", 60))
        self.assertEqual(self.check(yard, [0, 123], 59), ("later",))
        self.assertEqual(self.check(yard, [0, 124], 60), ("later",))
        late = ([("a", 9, 9), ("b", 9, 0)], [(0, 1, 1, 0, ("late", 9, 59))])
        self.assertEqual(self.check(late, [0, 9], 60), ("met", 60))
        late[1][0] = (0, 1, 1, 0, ("late", 9, 60))
        self.assertEqual(self.check(late, [0, 1], 60), ("later",))

    def test_never(self):
        for wants in ([6, 0, 0, 0], [0, 0, 6, 0], [3, 3, 0, 0], [9, 9, 9, 9], [0, 0, 1, 7]):
            for last in (0, 1, 20, 60):
                self.assertEqual(self.check(PAIRS, wants, last), ("never",))
        alone = ([("a", 9, 3)], [])
        self.assertEqual(soonest(alone, [4], 60), ("never", [0]))
        self.assertEqual(soonest(alone, [4], 0), ("never", [0]))
        self.assertEqual(soonest(alone, [3], 60), ("met", 0, [], []))

    def test_rooms_hold_back_what_passes(self):
        # through b, which has no room, only as much passes as is let on at once
        vats = [("a", 9, 9), ("b", 0, 0), ("c", 9, 0)]
        yard = (vats, [(0, 1, 1, 0, ("steady", 9)), (1, 2, 1, 0, ("steady", 2))])
        self.assertEqual(self.check(yard, [0, 0, 9], 60), ("met", 6))
        pipes = [(0, 1, 1, 0, ("steady", 9)), (1, 2, 1, 0, ("tidal", 9, 1, 4))]
        roomy = ([("a", 9, 9), ("b", 9, 0), ("c", 9, 0)], pipes)
        self.assertEqual(self.check(roomy, [0, 0, 9], 60), ("met", 5))
        # seven are in c by 5, or but six where b holds only one of them, and one more at each moment
        for room, first in ((2, 7), (9, 7), (1, 8)):
            tight = ([("a", 9, 9), ("b", room, 0), ("c", 9, 0)], [(0, 1, 1, 0, ("tidal", 1, 2, 4)), roomy[1][1]])
            self.assertEqual(self.check(tight, [0, 0, 9], 60), ("met", first))

    def test_a_full_vat_must_give_ahead_of_taking(self):
        # b is full from the beginning, and is full again as the third one is in c
        vats = [("a", 3, 3), ("b", 1, 1), ("c", 9, 0)]
        yard = (vats, [(0, 1, 1, 0, ("steady", 1)), (1, 2, 1, 0, ("steady", 1))])
        self.assertEqual(self.check(yard, [0, 1, 3], 60), ("met", 3))
        self.assertEqual(self.check(yard, [0, 0, 4], 60), ("met", 4))
        self.assertEqual(self.check(yard, [1, 1, 3], 60), ("never",))

    def test_the_greatest_numbers(self):
        yard = ([("a", MOST, MOST), ("b", MOST, 0)], [(0, 1, 20, 0, ("tidal", MOST - 1, 1, 20))])
        self.assertEqual(self.check(yard, [0, MOST - 1], 60), ("met", 20))
        self.assertEqual(self.check(yard, [0, MOST], 60), ("met", 21))
        yard[1][0] = (0, 1, 20, 0, ("steady", 1))
        self.assertEqual(self.check(yard, [0, MOST], 60), ("later",))

    def test_12_vats_and_24_pipes(self):
        seen = {}
        for seed in range(60):
            chance = random.Random(seed)
            yard = some_yard(chance, 12, 24, chance.choice((9, 100, MOST)), chance.choice((2, 20)), 20)
            wants = some_wants(chance, yard, chance.choice((20, 40, 60)))
            # some of what is wanted of a vat that nothing leads to can never be met: want only its fill there
            for vat in range(12):
                if chance.random() < 0.8 and all(pipe[1] != vat for pipe in yard[1]):
                    wants[vat] = min(wants[vat], yard[0][vat][2])
            told = self.check(yard, wants, chance.choice((60, 60, 30, 5)))
            seen[told[0]] = seen.get(told[0], 0) + 1
            if told[0] == "met":
                self.assertEqual(self.check(yard, wants, 60), told)
                self.assertEqual(met_at(yard, wants, told[1])[0], "plan")
                if told[1] > 0:
                    self.assertEqual(self.check(yard, wants, told[1] - 1), ("later",))
        for word in ("never", "met", "later"):
            self.assertGreater(seen[word], 3)

    def test_lists_told_are_new_ones(self):
        for wants, last in (([0, 0, 0, 0], 3), ([0, 0, 0, 6], 60), ([0, 0, 0, 6], 4), ([9, 9, 0, 0], 9)):
            first = soonest(PAIRS, wants, last)
            second = soonest(PAIRS, wants, last)
            self.assertEqual(first, second)
            lists = [part for told in (first, second) for part in told if type(part) is list]
            self.assertEqual(len({id(part) for part in lists}), len(lists))
            for part in lists[:len(lists) // 2]:
                part.append(77)
            self.assertEqual(soonest(PAIRS, wants, last), second)


class ByTheSureMoment(OfSoonest):
    def test_it_is_enough(self):
        seen = {"met": 0, "never": 0}
        just = 0
        for seed in range(400):
            chance = random.Random(seed)
            yard = some_yard(chance, chance.randint(1, 5), chance.randint(1, 5), chance.choice((1, 2, 3)), 3, 8)
            wants = [chance.randint(0, vat[1]) for vat in yard[0]]
            sure = surely(yard, wants)
            if sure <= 60:
                told = self.check(yard, wants, sure)
                seen[told[0]] += 1
                just += told == ("met", sure) and sure > 0
        self.assertGreater(min(seen.values()), 40)
        self.assertGreater(just, 0)

    def test_it_can_be_the_first_one(self):
        vats = [("a", 9, 9), ("b", 0, 0), ("c", 9, 0)]
        yard = (vats, [(0, 1, 3, 0, ("late", 1, 7)), (1, 2, 4, 0, ("steady", 1))])
        self.assertEqual(surely(yard, [0, 0, 1]), 14)
        self.assertEqual(self.check(yard, [0, 0, 1], 14), ("met", 14))
        self.assertEqual(self.check(yard, [0, 0, 1], 13), ("later",))


if __name__ == "__main__":
    unittest.main()
