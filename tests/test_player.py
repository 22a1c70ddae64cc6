"""Points 8 and 9: a Play of a yard, what it lets in and what it refuses."""

import random
import unittest

from vatyard.errors import NoAmount, NoPipe, TooFull, TooLittle, TooWide, YardError
from vatyard.gates import width
from vatyard.player import Play

HUGE = 10 ** 30 - 1
STEADY = ("steady", 3)

# a, b and c in a row, and a second, longer way from a to c
ROW = (
    [("a", 10, 8), ("b", 4, 1), ("c", 5, 5)],
    [
        (0, 1, 1, 7, ("steady", 3)),
        (1, 2, 2, 0, ("tidal", 5, 2, 3)),
        (0, 2, 4, 9, ("late", 6, 2)),
        (2, 0, 1, 1, ("steady", 1000)),
    ],
)


def copy_of(yard):
    return (list(yard[0]), list(yard[1]))


def state(play, pipes):
    """All that a Play tells."""
    return (play.now(), play.holds(), play.under_way(), play.full(), [play.room_in(k) for k in range(pipes)])


class Beginning(unittest.TestCase):
    def test_at_moment_0(self):
        play = Play(ROW)
        self.assertEqual(play.now(), 0)
        self.assertEqual(play.holds(), [8, 1, 5])
        self.assertEqual(play.under_way(), [])
        self.assertEqual(play.full(), [])
        self.assertEqual([play.room_in(pipe) for pipe in range(4)], [3, 5, 0, 1000])

    def test_one_vat_and_no_pipe(self):
        play = Play(([("a", 0, 0)], []))
        self.assertEqual(state(play, 0), (0, [0], [], [], []))
        self.assertEqual(play.go_on(), 1)
        self.assertEqual(state(play, 0), (1, [0], [], [], []))

    def test_it_goes_on_as_often_as_one_likes(self):
        play = Play(ROW)
        for moment in range(1, 201):
            self.assertEqual(play.go_on(), moment)
            self.assertEqual(play.now(), moment)
        self.assertEqual(play.holds(), [8, 1, 5])
        self.assertEqual(play.let(2, 6), 2)
        self.assertEqual(play.under_way(), [(204, 2, 6)])


class Letting(unittest.TestCase):
    def test_one_bucket(self):
        play = Play(ROW)
        self.assertEqual(play.let(0, 1), 7)
        self.assertEqual(play.holds(), [7, 1, 5])
        self.assertEqual(play.under_way(), [(1, 0, 1)])
        self.assertEqual(play.room_in(0), 2)

    def test_just_what_the_start_holds(self):
        play = Play(ROW)
        self.assertEqual(play.let(3, 5), 0)
        self.assertEqual(play.holds(), [8, 1, 0])
        self.assertEqual(play.room_in(3), 995)
        self.assertRaises(TooLittle, play.let, 3, 1)

    def test_one_more_than_the_start_holds(self):
        play = Play(ROW)
        self.assertRaises(TooLittle, play.let, 3, 6)
        self.assertEqual(play.let(3, 5), 0)

    def test_just_the_width(self):
        play = Play(ROW)
        self.assertEqual(play.let(0, 3), 5)
        self.assertEqual(play.room_in(0), 0)
        self.assertRaises(TooWide, play.let, 0, 1)

    def test_one_more_than_the_width(self):
        play = Play(ROW)
        self.assertRaises(TooWide, play.let, 0, 4)
        self.assertEqual(play.let(0, 3), 5)

    def test_several_into_one_pipe_in_one_moment(self):
        play = Play(ROW)
        self.assertEqual(play.let(0, 1), 7)
        self.assertRaises(TooWide, play.let, 0, 3)
        self.assertEqual(play.let(0, 2), 5)
        self.assertEqual(play.under_way(), [(1, 0, 3)])
        self.assertEqual(play.room_in(0), 0)
        self.assertEqual(play.go_on(), 1)
        self.assertEqual(play.holds(), [5, 4, 5])
        self.assertEqual(play.under_way(), [])
        self.assertEqual(play.room_in(0), 3)

    def test_pipes_alike_have_a_width_each(self):
        play = Play(([("a", 9, 9), ("b", 9, 0)], [(0, 1, 2, 0, STEADY), (0, 1, 2, 0, STEADY)]))
        self.assertEqual(play.let(1, 3), 6)
        self.assertEqual(play.room_in(0), 3)
        self.assertEqual(play.let(0, 2), 4)
        self.assertEqual(play.under_way(), [(2, 0, 2), (2, 1, 3)])
        play.go_on()
        play.go_on()
        self.assertEqual(play.holds(), [4, 5])

    def test_two_pipes_draw_on_one_start(self):
        play = Play(([("a", 4, 4), ("b", 9, 0)], [(0, 1, 2, 0, STEADY), (0, 1, 1, 0, STEADY)]))
        self.assertEqual(play.let(0, 3), 1)
        self.assertRaises(TooLittle, play.let, 1, 2)
        self.assertEqual(play.let(1, 1), 0)

    def test_what_room_in_tells_is_not_bound_by_the_start(self):
        play = Play(([("a", 9, 0), ("b", 9, 0)], [(0, 1, 1, 0, ("steady", 10 ** 12))]))
        self.assertEqual(play.room_in(0), 10 ** 12)
        self.assertRaises(TooLittle, play.let, 0, 1)


class UnderWay(unittest.TestCase):
    def test_it_comes_as_much_later_as_the_pipe_is_long(self):
        for length in (1, 2, 20):
            with self.subTest(length=length):
                play = Play(([("a", 5, 5), ("b", 5, 0)], [(0, 1, length, 0, STEADY)]))
                play.go_on()
                play.let(0, 2)
                for moment in range(1, length + 1):
                    self.assertEqual(play.now(), moment)
                    self.assertEqual(play.holds(), [3, 0])
                    self.assertEqual(play.under_way(), [(length + 1, 0, 2)])
                    play.go_on()
                self.assertEqual(play.holds(), [3, 2])
                self.assertEqual(play.under_way(), [])

    def test_its_order(self):
        vats = [("a", 9, 9), ("b", 9, 0), ("c", 9, 0)]
        pipes = [(0, 1, 3, 0, STEADY), (0, 2, 1, 0, STEADY), (0, 1, 2, 0, STEADY), (0, 2, 3, 0, STEADY)]
        play = Play((vats, pipes))
        for pipe in (3, 2, 1, 0):
            play.let(pipe, 1)
        self.assertEqual(play.under_way(), [(1, 1, 1), (2, 2, 1), (3, 0, 1), (3, 3, 1)])
        play.go_on()
        self.assertEqual(play.under_way(), [(2, 2, 1), (3, 0, 1), (3, 3, 1)])
        play.let(2, 2)
        play.let(0, 1)
        play.let(1, 2)
        self.assertEqual(play.under_way(), [(2, 1, 2), (2, 2, 1), (3, 0, 1), (3, 2, 2), (3, 3, 1), (4, 0, 1)])

    def test_numbers_are_sorted_as_numbers(self):
        pipes = [(0, 1, 20 - number % 15, 0, STEADY) for number in range(24)]
        play = Play(([("a", 99, 99), ("b", 99, 0)], pipes))
        for number in range(24):
            play.let(number, 1 + number % 3)
        told = [(20 - number % 15, number, 1 + number % 3) for number in range(24)]
        self.assertEqual(play.under_way(), sorted(told))

    def test_one_for_each_moment_of_coming_and_pipe(self):
        play = Play(ROW)
        play.let(0, 1)
        play.let(0, 1)
        play.let(1, 1)
        play.go_on()
        play.let(1, 1)
        play.let(1, 1)
        self.assertEqual(play.under_way(), [(2, 1, 1), (3, 1, 2)])


class Refusals(unittest.TestCase):
    def refused(self, play, refusal, pipe, amount):
        pipes = len(ROW[1])
        before = state(play, pipes)
        with self.assertRaises(refusal) as caught:
            play.let(pipe, amount)
        self.assertIs(type(caught.exception), refusal)
        self.assertIsInstance(caught.exception, YardError)
        self.assertEqual(state(play, pipes), before)

    def test_no_pipe(self):
        for pipe in (-1, -4, -5, 4, 5, HUGE, -HUGE):
            for amount in (1, 0, -1, HUGE, -HUGE):
                with self.subTest(pipe=pipe, amount=amount):
                    self.refused(Play(ROW), NoPipe, pipe, amount)

    def test_no_pipe_at_all(self):
        for pipe in (0, -1, HUGE, -HUGE):
            play = Play(([("a", 3, 3)], []))
            self.assertRaises(NoPipe, play.let, pipe, 1)
            self.assertRaises(NoPipe, play.room_in, pipe)

    def test_room_in_of_no_pipe(self):
        for pipe in (-1, -4, 4, HUGE, -HUGE):
            play = Play(ROW)
            with self.assertRaises(NoPipe) as caught:
                play.room_in(pipe)
            self.assertIs(type(caught.exception), NoPipe)
            self.assertEqual(state(play, 4), state(Play(ROW), 4))

    def test_no_amount(self):
        # pipe 2 is shut at moment 0, so nothing could be let into it either
        for pipe in range(4):
            for amount in (0, -1, -HUGE):
                with self.subTest(pipe=pipe, amount=amount):
                    self.refused(Play(ROW), NoAmount, pipe, amount)

    def test_no_amount_of_an_empty_start(self):
        play = Play(([("a", 3, 0), ("b", 3, 3)], [(0, 1, 1, 0, STEADY)]))
        self.assertRaises(NoAmount, play.let, 0, 0)
        self.assertRaises(NoAmount, play.let, 0, -3)

    def test_no_amount_ahead_of_a_full_width(self):
        play = Play(ROW)
        play.let(0, 3)
        self.refused(play, NoAmount, 0, 0)
        self.refused(play, NoAmount, 0, -3)

    def test_too_wide(self):
        self.refused(Play(ROW), TooWide, 0, 4)
        self.refused(Play(ROW), TooWide, 0, HUGE)
        self.refused(Play(ROW), TooWide, 2, 1)

    def test_too_wide_with_what_was_let(self):
        play = Play(ROW)
        play.let(0, 2)
        self.refused(play, TooWide, 0, 2)
        play.let(0, 1)
        self.refused(play, TooWide, 0, 1)

    def test_too_wide_ahead_of_too_little(self):
        self.refused(Play(ROW), TooWide, 1, 6)
        self.refused(Play(ROW), TooWide, 3, 1001)
        play = Play(([("a", 3, 2), ("b", 3, 3)], [(0, 1, 1, 0, ("steady", 2))]))
        play.let(0, 2)
        self.assertRaises(TooWide, play.let, 0, 1)

    def test_too_little(self):
        self.refused(Play(ROW), TooLittle, 1, 2)
        self.refused(Play(ROW), TooLittle, 1, 5)
        self.refused(Play(ROW), TooLittle, 3, 1000)

    def test_done_once_the_width_allows_it(self):
        play = Play(ROW)
        self.refused(play, TooWide, 2, 6)
        play.go_on()
        self.refused(play, TooWide, 2, 6)
        play.go_on()
        self.assertEqual(play.let(2, 6), 2)

    def test_done_once_the_next_moment_comes(self):
        play = Play(ROW)
        play.let(0, 3)
        self.refused(play, TooWide, 0, 3)
        play.go_on()
        self.assertEqual(play.let(0, 3), 2)

    def test_done_once_enough_has_come(self):
        play = Play(ROW)
        self.refused(play, TooLittle, 1, 2)
        play.let(0, 3)
        self.refused(play, TooLittle, 1, 2)
        play.go_on()
        self.assertEqual(play.let(1, 2), 2)

    def test_less_is_let_where_more_was_refused(self):
        play = Play(ROW)
        for amount in (HUGE, 5, 4):
            self.refused(play, TooWide, 0, amount)
        self.assertEqual(play.let(0, 3), 5)


class TooFullVats(unittest.TestCase):
    def yard(self):
        vats = [("a", 9, 9), ("b", 1, 1), ("c", 0, 0), ("d", 9, 0)]
        pipes = [(0, 2, 1, 0, STEADY), (0, 1, 1, 0, STEADY), (1, 3, 1, 0, STEADY), (2, 3, 5, 0, STEADY)]
        return (vats, pipes)

    def test_told_rising(self):
        play = Play(self.yard())
        play.let(0, 2)
        play.let(1, 1)
        self.assertEqual(play.full(), [])
        play.go_on()
        self.assertEqual(play.holds(), [6, 2, 2, 0])
        self.assertEqual(play.full(), [1, 2])

    def test_a_going_on_is_refused_and_changes_nothing(self):
        play = Play(self.yard())
        play.let(0, 2)
        play.go_on()
        before = state(play, 4)
        self.assertEqual(before, (1, [7, 1, 2, 0], [], [2], [3, 3, 3, 3]))
        for again in range(3):
            with self.assertRaises(TooFull) as caught:
                play.go_on()
            self.assertIs(type(caught.exception), TooFull)
            self.assertEqual(state(play, 4), before)

    def test_what_was_let_before_a_refused_going_on_counts_still(self):
        play = Play(self.yard())
        play.let(0, 2)
        play.go_on()
        play.let(3, 1)
        self.assertRaises(TooFull, play.go_on)
        self.assertEqual(state(play, 4), (1, [7, 1, 1, 0], [(6, 3, 1)], [2], [3, 3, 3, 2]))

    def test_done_once_enough_was_let_on_at_the_same_moment(self):
        play = Play(self.yard())
        play.let(0, 2)
        play.let(1, 3)
        play.go_on()
        self.assertEqual(play.full(), [1, 2])
        play.let(3, 2)
        self.assertEqual(play.full(), [1])
        self.assertRaises(TooFull, play.go_on)
        play.let(2, 2)
        self.assertEqual(play.full(), [1])
        self.assertRaises(TooFull, play.go_on)
        play.let(2, 1)
        self.assertEqual(play.holds(), [4, 1, 0, 0])
        self.assertEqual(play.full(), [])
        self.assertEqual(play.go_on(), 2)
        self.assertEqual(play.holds(), [4, 1, 0, 3])

    def test_what_is_let_on_at_once_needs_no_room(self):
        vats = [("a", 10 ** 12, 10 ** 12), ("b", 0, 0), ("c", 10 ** 12, 0)]
        wide = ("steady", 10 ** 12)
        play = Play((vats, [(0, 1, 1, 0, wide), (1, 2, 1, 0, wide)]))
        self.assertEqual(play.let(0, 10 ** 12), 0)
        play.go_on()
        self.assertEqual(play.let(1, 10 ** 12), 0)
        play.go_on()
        self.assertEqual(play.holds(), [0, 0, 10 ** 12])

    def test_just_full_is_not_too_full(self):
        play = Play(([("a", 5, 5), ("b", 3, 0)], [(0, 1, 1, 0, STEADY)]))
        play.let(0, 3)
        self.assertEqual(play.go_on(), 1)
        self.assertEqual(play.holds(), [2, 3])
        self.assertEqual(play.full(), [])
        self.assertEqual(play.go_on(), 2)

    def test_a_vat_that_would_be_too_full_later_refuses_nothing_now(self):
        play = Play(([("a", 5, 5), ("b", 0, 0)], [(0, 1, 3, 0, STEADY)]))
        play.let(0, 3)
        for moment in (1, 2, 3):
            self.assertEqual(play.go_on(), moment)
        self.assertEqual(play.full(), [1])
        self.assertRaises(TooFull, play.go_on)


class Gates(unittest.TestCase):
    def test_the_width_of_each_moment(self):
        gates = [("steady", 4), ("late", 5, 3), ("tidal", 7, 2, 3), ("late", 6, 0), ("tidal", 1, 9, 2)]
        pipes = [(0, 1, 1, 0, gate) for gate in gates]
        play = Play(([("a", 9, 9), ("b", 9, 0)], pipes))
        seen = []
        for moment in range(7):
            seen.append([play.room_in(pipe) for pipe in range(5)])
            play.go_on()
        self.assertEqual(seen, [
            [4, 0, 7, 6, 1], [4, 0, 2, 6, 9], [4, 0, 2, 6, 1], [4, 5, 7, 6, 9],
            [4, 5, 2, 6, 1], [4, 5, 2, 6, 9], [4, 5, 7, 6, 1],
        ])

    def test_a_tide_lets_in_by_its_moment(self):
        play = Play(([("a", 99, 99), ("b", 99, 0)], [(0, 1, 1, 0, ("tidal", 2, 5, 2))]))
        for wide in (2, 5, 2, 5):
            self.assertRaises(TooWide, play.let, 0, wide + 1)
            play.let(0, wide)
            self.assertRaises(TooWide, play.let, 0, 1)
            play.go_on()
        self.assertEqual(play.holds(), [85, 14])


class TheAskersLists(unittest.TestCase):
    def test_a_yard_that_is_changed_behind(self):
        yard = copy_of(ROW)
        play = Play(yard)
        yard[0][0] = ("a", 0, 0)
        yard[0].append(("d", 1, 1))
        yard[1][0] = (1, 2, 9, 9, ("steady", 1))
        yard[1].append((0, 1, 1, 0, STEADY))
        self.assertEqual(state(play, 4), state(Play(ROW), 4))
        self.assertRaises(NoPipe, play.room_in, 4)
        self.assertEqual(play.let(0, 3), 5)
        self.assertEqual(play.go_on(), 1)
        self.assertEqual(play.holds(), [5, 4, 5])
        yard[0].clear()
        yard[1].clear()
        self.assertEqual(play.let(1, 2), 2)
        self.assertEqual(play.go_on(), 2)
        self.assertEqual(play.go_on(), 3)
        self.assertEqual(play.holds(), [5, 2, 7])
        self.assertEqual(play.full(), [2])

    def test_two_plays_of_the_same_lists(self):
        yard = copy_of(ROW)
        first = Play(yard)
        second = Play(yard)
        first.let(0, 3)
        first.go_on()
        self.assertEqual(state(second, 4), state(Play(ROW), 4))
        yard[1].pop()
        yard[0][1] = ("b", 9, 9)
        self.assertEqual(second.let(3, 2), 3)
        self.assertEqual(second.go_on(), 1)
        self.assertEqual(second.holds(), [10, 1, 3])
        self.assertEqual(first.holds(), [5, 4, 5])
        self.assertEqual(first.let(3, 5), 0)

    def test_a_play_changes_no_yard(self):
        yard = copy_of(ROW)
        play = Play(yard)
        play.let(0, 3)
        play.go_on()
        play.let(0, 1)
        self.assertEqual(yard, ROW)

    def test_lists_told_are_the_askers_own(self):
        vats = [("a", 9, 9), ("b", 1, 0)]
        play = Play((vats, [(0, 1, 1, 0, STEADY), (0, 1, 9, 0, STEADY)]))
        play.let(0, 2)
        play.let(1, 1)
        play.go_on()
        told = [play.holds(), play.under_way(), play.full(), play.holds(), play.under_way(), play.full()]
        self.assertEqual(told[:3], [[6, 2], [(9, 1, 1)], [1]])
        self.assertEqual(len({id(part) for part in told}), 6)
        for part in told:
            part.append(99)
            part[0] = 77
        self.assertEqual([play.holds(), play.under_way(), play.full()], [[6, 2], [(9, 1, 1)], [1]])
        for part in told:
            part.clear()
        self.assertRaises(TooFull, play.go_on)
        self.assertEqual([play.holds(), play.under_way(), play.full()], [[6, 2], [(9, 1, 1)], [1]])

    def test_empty_lists_too(self):
        play = Play(ROW)
        play.full().append(1)
        play.under_way().append((1, 0, 5))
        self.assertEqual(state(play, 4), state(Play(ROW), 4))


class Second:
    """A second reckoning of a Play, from all lettings that were done."""

    def __init__(self, yard):
        self.vats, self.pipes = yard
        self.done = []
        self.moment = 0

    def holds(self):
        told = [fill for name, room, fill in self.vats]
        for moment, pipe, amount in self.done:
            start, goal, length = self.pipes[pipe][:3]
            told[start] -= amount
            if moment + length <= self.moment:
                told[goal] += amount
        return told

    def under_way(self):
        told = {}
        for moment, pipe, amount in self.done:
            coming = moment + self.pipes[pipe][2]
            if coming > self.moment:
                told[coming, pipe] = told.get((coming, pipe), 0) + amount
        return sorted((coming, pipe, amount) for (coming, pipe), amount in told.items())

    def room_in(self, pipe):
        let = sum(a for m, p, a in self.done if (m, p) == (self.moment, pipe))
        return width(self.pipes[pipe][4], self.moment) - let

    def full(self):
        return [v for v, held in enumerate(self.holds()) if held > self.vats[v][1]]

    def refusal(self, pipe, amount):
        if pipe not in range(len(self.pipes)):
            return NoPipe
        if amount < 1:
            return NoAmount
        if amount > self.room_in(pipe):
            return TooWide
        return TooLittle if amount > self.holds()[self.pipes[pipe][0]] else None


def some_gate(chance):
    return chance.choice([
        ("steady", chance.randint(1, 6)),
        ("late", chance.randint(1, 6), chance.randint(0, 6)),
        ("tidal", chance.randint(1, 6), chance.randint(1, 6), chance.randint(2, 4)),
    ])


def some_yard(chance):
    vats = []
    for name in "abcd"[:chance.randint(2, 4)]:
        room = chance.randint(0, 8)
        vats.append((name, room, chance.randint(0, room)))
    pipes = []
    for number in range(chance.randint(1, 6)):
        start, goal = chance.sample(range(len(vats)), 2)
        pipes.append((start, goal, chance.randint(1, 4), chance.randint(0, 9), some_gate(chance)))
    return (vats, pipes)


class AgainstASecondReckoning(unittest.TestCase):
    def alike(self, play, second, fills):
        self.assertEqual(play.now(), second.moment)
        self.assertEqual(play.holds(), second.holds())
        self.assertEqual(play.under_way(), second.under_way())
        self.assertEqual(play.full(), second.full())
        pipes = range(len(second.pipes))
        self.assertEqual([play.room_in(pipe) for pipe in pipes], [second.room_in(pipe) for pipe in pipes])
        self.assertEqual(sum(play.holds()) + sum(part[2] for part in play.under_way()), fills)

    def let(self, chance, play, second):
        pipe = chance.randint(-1, len(second.pipes))
        amount = chance.randint(-1, 7)
        refusal = second.refusal(pipe, amount)
        if refusal is not None:
            with self.assertRaises(refusal) as caught:
                play.let(pipe, amount)
            self.assertIs(type(caught.exception), refusal)
            return refusal
        second.done.append((second.moment, pipe, amount))
        self.assertEqual(play.let(pipe, amount), second.holds()[second.pipes[pipe][0]])
        return None

    def go_on(self, play, second):
        if second.full():
            self.assertRaises(TooFull, play.go_on)
            return TooFull
        second.moment += 1
        self.assertEqual(play.go_on(), second.moment)
        return None

    def test_many_plays(self):
        seen = {}
        for seed in range(150):
            chance = random.Random(seed)
            yard = some_yard(chance)
            play = Play(yard)
            second = Second(copy_of(yard))
            fills = sum(vat[2] for vat in yard[0])
            for again in range(60):
                going = chance.random() < 0.3
                told = self.go_on(play, second) if going else self.let(chance, play, second)
                seen[told, going] = seen.get((told, going), 0) + 1
                self.alike(play, second, fills)
        # each refusal, and each thing done, must have come up often enough to tell something
        done = [(None, False), (None, True), (TooFull, True)]
        for kind in done + [(refusal, False) for refusal in (NoPipe, NoAmount, TooWide, TooLittle)]:
            self.assertGreater(seen[kind], 100, kind)


if __name__ == "__main__":
    unittest.main()
