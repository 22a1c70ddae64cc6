"""Point 10: plans, how they are played until a moment, and their prices."""

import random
import unittest

from vatyard.errors import NoAmount, NoMoment, NoPipe, TooFull, TooLittle, TooWide, YardError
from vatyard.player import played, price_of

HUGE = 10 ** 30 - 1

# a to b to c, with a second, long way from a to c; b is a small vat
ROW = (
    [("a", 10, 8), ("b", 2, 0), ("c", 5, 0)],
    [
        (0, 1, 1, 7, ("steady", 3)),
        (1, 2, 2, 0, ("tidal", 4, 2, 2)),
        (0, 2, 4, 1000000, ("late", 6, 2)),
    ],
)
FILLS = [8, 0, 0]


class Told(unittest.TestCase):
    def test_until_0(self):
        self.assertEqual(played(ROW, [], 0), [FILLS])

    def test_without_lettings(self):
        self.assertEqual(played(ROW, [], 1), [FILLS] * 2)
        self.assertEqual(played(ROW, [], 60), [FILLS] * 61)

    def test_until_each_moment(self):
        plan = [(0, 0, 2), (2, 1, 1)]
        told = [[6, 0, 0], [6, 2, 0], [6, 1, 0], [6, 1, 0], [6, 1, 1], [6, 1, 1]]
        self.assertEqual(played(ROW, plan, 3), told[:3] + [[6, 1, 0]])
        self.assertEqual(played(ROW, plan, 4), told[:5])
        self.assertEqual(played(ROW, plan, 5), told)
        self.assertEqual(played(ROW, plan, 60), told[:4] + [[6, 1, 1]] * 57)

    def test_until_a_moment_ahead_of_what_is_under_way(self):
        plan = [(2, 2, 5)]
        self.assertEqual(played(ROW, plan, 3), [FILLS, FILLS, [3, 0, 0], [3, 0, 0]])
        self.assertEqual(played(ROW, plan, 5), [FILLS, FILLS, [3, 0, 0], [3, 0, 0], [3, 0, 0], [3, 0, 0]])
        self.assertEqual(played(ROW, plan, 6)[5:], [[3, 0, 0], [3, 0, 5]])

    def test_the_last_one_is_behind_what_comes_then(self):
        self.assertEqual(played(ROW, [(0, 0, 2)], 1), [[6, 0, 0], [6, 2, 0]])

    def test_as_a_moment_ends_what_came_was_let_on(self):
        plan = [(0, 0, 3), (1, 1, 1), (1, 0, 2), (2, 1, 4)]
        self.assertEqual(played(ROW, plan, 4), [[5, 0, 0], [3, 2, 0], [3, 0, 0], [3, 0, 1], [3, 0, 5]])

    def test_lettings_not_in_the_order_of_their_moments(self):
        plan = [(2, 1, 4), (0, 0, 3), (1, 0, 2), (1, 1, 1)]
        told = [[5, 0, 0], [3, 2, 0], [3, 0, 0], [3, 0, 1], [3, 0, 5]]
        self.assertEqual(played(ROW, plan, 4), told)
        self.assertEqual(played(ROW, plan[::-1], 4), told)

    def test_several_lettings_into_one_pipe_at_one_moment(self):
        self.assertEqual(played(ROW, [(0, 0, 1), (0, 0, 1)], 1), [[6, 0, 0], [6, 2, 0]])

    def test_a_yard_without_pipes(self):
        self.assertEqual(played(([("a", 3, 3)], []), [], 2), [[3], [3], [3]])

    def test_the_greatest_amounts(self):
        most = 10 ** 12
        wide = ("steady", most)
        yard = ([("a", most, most), ("b", 0, 0), ("c", most, 0)], [(0, 1, 20, 0, wide), (1, 2, 20, 0, wide)])
        told = played(yard, [(20, 1, most), (0, 0, most)], 60)
        self.assertEqual(told, [[0, 0, 0]] * 40 + [[0, 0, most]] * 21)

    def test_three_thousand_lettings(self):
        yard = ([("a", 3000, 3000), ("b", 3000, 0)], [(0, 1, 1, 2, ("steady", 50))])
        plan = [(number % 60, 0, 1) for number in range(3000)]
        told = played(yard, plan, 60)
        self.assertEqual(told[60], [0, 3000])
        self.assertEqual(told[9], [2500, 450])
        self.assertEqual(price_of(yard, plan), 6000)


class Refused(unittest.TestCase):
    def refused(self, refusal, plan, until, yard=ROW):
        with self.assertRaises(refusal) as caught:
            played(yard, plan, until)
        self.assertIs(type(caught.exception), refusal)
        self.assertIsInstance(caught.exception, YardError)

    def test_no_moment(self):
        for moment in (-1, -2, -HUGE, 4, 5, 60, HUGE):
            with self.subTest(moment=moment):
                self.refused(NoMoment, [(moment, 0, 1)], 4)
                self.refused(NoMoment, [(0, 0, 1), (moment, 0, 1)], 4)
        self.refused(NoMoment, [(0, 0, 1)], 0)
        self.refused(NoMoment, [(-1, 0, 1)], 0)
        self.refused(NoMoment, [(60, 0, 1)], 60)
        self.assertEqual(played(ROW, [(59, 0, 1)], 60)[59:], [[7, 0, 0], [7, 1, 0]])
        self.assertEqual(played(ROW, [(3, 0, 1)], 4)[3:], [[7, 0, 0], [7, 1, 0]])

    def test_no_moment_ahead_of_all_else(self):
        for ahead in ((0, 9, 1), (0, 0, 0), (0, 0, 4), (0, 1, 1), (0, 0, 3)):
            with self.subTest(ahead=ahead):
                self.refused(NoMoment, [ahead, (5, 0, 1)], 5)
                self.refused(NoMoment, [ahead, (-1, 0, 1)], 5)
                self.refused(NoMoment, [ahead, (5, 9, 0)], 5)
                self.refused(NoMoment, [(5, 0, 1), ahead], 5)
        # TooFull of what lies at last
        self.refused(TooFull, [(0, 0, 3)], 1)
        self.refused(NoMoment, [(0, 0, 3), (1, 0, 1)], 1)

    def test_each_refusal_of_a_letting(self):
        for pipe in (3, -1, -3, HUGE, -HUGE):
            self.refused(NoPipe, [(0, pipe, 1)], 1)
            self.refused(NoPipe, [(3, pipe, 1)], 60)
            self.refused(NoPipe, [(3, pipe, 0)], 60)
        for amount in (0, -1, -HUGE):
            self.refused(NoAmount, [(0, 0, amount)], 1)
            self.refused(NoAmount, [(1, 2, amount)], 60)
        for letting in ((0, 0, 4), (0, 2, 1), (1, 1, 3), (1, 1, HUGE), (2, 2, 9)):
            self.refused(TooWide, [letting], 3)
        for letting in ((0, 1, 1), (2, 1, 4), (1, 1, 2)):
            self.refused(TooLittle, [letting], 3)

    def test_what_was_let_in_the_same_moment_counts(self):
        self.refused(TooWide, [(0, 0, 2), (0, 0, 2)], 1)
        self.refused(TooWide, [(1, 0, 2), (0, 0, 2), (1, 0, 2), (1, 1, 2)], 2)
        self.refused(TooLittle, [(2, 2, 6), (2, 0, 3)], 3)
        self.assertEqual(played(ROW, [(2, 2, 6), (2, 0, 2)], 3)[3], [0, 2, 0])

    def test_a_letting_waits_for_what_comes(self):
        self.refused(TooLittle, [(0, 0, 2), (0, 1, 1)], 2)
        self.refused(TooLittle, [(0, 1, 1), (0, 0, 2)], 2)
        self.assertEqual(played(ROW, [(1, 1, 1), (0, 0, 2)], 2)[2], [6, 1, 0])

    def test_the_first_of_two_in_one_moment(self):
        wrong = {NoPipe: (0, 3, 1), NoAmount: (0, 0, 0), TooWide: (0, 0, 4), TooLittle: (0, 1, 1)}
        for first in wrong:
            for second in wrong:
                with self.subTest(first=first, second=second):
                    self.refused(first, [wrong[first], wrong[second]], 2)

    def test_the_first_by_moments_not_by_places(self):
        self.refused(TooLittle, [(1, 3, 1), (0, 1, 1)], 2)
        self.refused(NoPipe, [(1, 0, 0), (1, 0, 4), (0, 3, 1)], 2)

    def test_too_full_of_a_going_on(self):
        self.refused(TooFull, [(0, 0, 3)], 2)
        self.refused(TooFull, [(0, 0, 3)], 60)
        # 3 come at 1, of which 1 is let on at the same moment, or not
        self.assertEqual(played(ROW, [(0, 0, 3), (1, 1, 1)], 2)[2], [5, 2, 0])

    def test_too_full_against_refusals_of_lettings(self):
        # the going on from 1 is refused, so what stands at 2 is never tried; what stands at 1 is
        self.refused(TooFull, [(2, 3, 1), (0, 0, 3)], 3)
        self.refused(NoPipe, [(1, 3, 1), (0, 0, 3)], 3)
        self.refused(NoAmount, [(0, 0, 3), (1, 0, 0)], 3)

    def test_too_full_of_what_lies_at_last(self):
        self.refused(TooFull, [(0, 0, 3)], 1)
        self.assertEqual(played(ROW, [(0, 0, 2)], 1)[1], [6, 2, 0])
        self.refused(TooFull, [(2, 2, 6)], 6)
        self.assertEqual(played(ROW, [(2, 2, 6)], 5)[5], [2, 0, 0])
        self.assertEqual(played(ROW, [(2, 2, 5)], 6)[6], [3, 0, 5])

    def test_what_never_comes_refuses_nothing(self):
        self.assertEqual(played(ROW, [(2, 2, 6)], 3)[3], [2, 0, 0])

    def test_the_last_refusal_comes_last(self):
        self.refused(NoPipe, [(5, 3, 1), (2, 2, 6)], 6)
        self.refused(TooLittle, [(5, 0, 3), (2, 2, 6)], 6)
        self.refused(TooFull, [(5, 0, 2), (2, 2, 6)], 6)


class Prices(unittest.TestCase):
    def test_without_lettings(self):
        self.assertEqual(price_of(ROW, []), 0)
        self.assertEqual(price_of(([("a", 1, 1)], []), []), 0)

    def test_amount_times_price(self):
        self.assertEqual(price_of(ROW, [(0, 0, 1)]), 7)
        self.assertEqual(price_of(ROW, [(3, 1, 50)]), 0)
        self.assertEqual(price_of(ROW, [(0, 0, 3), (4, 0, 2), (4, 0, 2), (1, 1, 9), (2, 2, 6)]), 6000049)

    def test_amounts_of_thirty_figures(self):
        self.assertEqual(price_of(ROW, [(0, 2, HUGE)]), 10 ** 36 - 10 ** 6)
        self.assertEqual(price_of(ROW, [(HUGE, 0, HUGE), (-HUGE, 2, HUGE)]), 1000007 * HUGE)

    def test_whether_it_can_be_played_is_not_asked(self):
        self.assertEqual(price_of(ROW, [(0, 0, 100), (70, 0, 1)]), 707)


def is_list_of_own_lists(told):
    return len({id(told)} | {id(row) for row in told}) == len(told) + 1


class TheAskersLists(unittest.TestCase):
    def test_nothing_handed_in_is_changed(self):
        yard = (list(ROW[0]), list(ROW[1]))
        plan = [(2, 1, 1), (0, 0, 2)]
        played(yard, plan, 5)
        price_of(yard, plan)
        self.assertRaises(TooFull, played, yard, plan + [(0, 0, 1)], 5)
        self.assertEqual(yard, ROW)
        self.assertEqual(plan, [(2, 1, 1), (0, 0, 2)])

    def test_lists_told_are_new_ones(self):
        for plan, until in (([], 0), ([], 60), ([(2, 1, 1), (0, 0, 2)], 7)):
            with self.subTest(plan=plan, until=until):
                told = played(ROW, plan, until)
                again = played(ROW, plan, until)
                self.assertEqual(told, again)
                self.assertTrue(is_list_of_own_lists(told + again))
                for row in told:
                    row.clear()
                self.assertEqual(played(ROW, plan, until), again)


def lying(yard, plan, moment, ended):
    """What lies in the vats at a moment, from all lettings of a plan."""
    told = [fill for name, room, fill in yard[0]]
    for begun, pipe, amount in plan:
        if begun < moment or (begun == moment and ended):
            told[yard[1][pipe][0]] -= amount
        if begun + yard[1][pipe][2] <= moment:
            told[yard[1][pipe][1]] += amount
    return told


class AgainstASecondReckoning(unittest.TestCase):
    def test_many_plans(self):
        outcomes = {}
        for seed in range(600):
            chance = random.Random(seed)
            until = chance.randint(1, 6)
            plan = [(chance.randrange(until), chance.randrange(3), chance.randint(1, 3)) for k in range(3)]
            try:
                told = played(ROW, plan, until)
                outcomes["told"] = outcomes.get("told", 0) + 1
            except YardError as refusal:
                outcomes[type(refusal)] = outcomes.get(type(refusal), 0) + 1
                continue
            self.assertEqual(told, [lying(ROW, plan, moment, moment < until) for moment in range(until + 1)])
            for row in told:
                self.assertTrue(all(0 <= held <= vat[1] for held, vat in zip(row, ROW[0])))
        for kind in ("told", TooWide, TooLittle, TooFull):
            self.assertGreater(outcomes[kind], 20, kind)


if __name__ == "__main__":
    unittest.main()
