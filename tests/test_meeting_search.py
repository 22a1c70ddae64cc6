"""Points 15 to 17 on small yards, against a search through all plans."""

import itertools
import random
import unittest

from vatyard.gates import width
from vatyard.meeting import lets_in, met_at, most_at
from vatyard.player import played


def some_gate(chance):
    return chance.choice([
        ("steady", chance.randint(1, 3)),
        ("late", chance.randint(1, 3), chance.randint(0, 3)),
        ("tidal", chance.randint(1, 3), chance.randint(1, 3), chance.randint(2, 3)),
    ])


def some_yard(chance):
    vats = []
    for name in "abc"[:chance.randint(1, 3)]:
        room = chance.randint(0, 3)
        vats.append((name, room, chance.randint(0, room)))
    pipes = []
    for number in range(chance.randint(1, 4) if len(vats) > 1 else 0):
        start, goal = chance.sample(range(len(vats)), 2)
        pipes.append((start, goal, chance.randint(1, 3), 0, some_gate(chance)))
    return (vats, pipes)


def lettings(yard, lying, moment):
    """All that can be let in at a moment: tuples of an amount for each pipe."""
    found = [()]
    for pipe in yard[1]:
        found = [told + (amount,) for told in found for amount in range(width(pipe[4], moment) + 1)]
    for told in found:
        gone = [0] * len(lying)
        for pipe, amount in zip(yard[1], told):
            gone[pipe[0]] += amount
        if all(out <= held for out, held in zip(gone, lying)):
            yield told, [held - out for held, out in zip(lying, gone)]


def fits(yard, lying):
    return all(held <= vat[1] for held, vat in zip(lying, yard[0]))


def ends(yard, until):
    """All that can lie in the vats at each moment, under way or not at last, by any plan at all."""
    states = {(tuple(vat[2] for vat in yard[0]), ())}
    told = []
    for moment in range(until + 1):
        told.append({lying for lying, coming in states if fits(yard, lying)})
        states = behind(yard, states, moment)
    return told


def behind(yard, states, moment):
    """The states (what lies, what comes when and where) at the next moment."""
    found = set()
    for lying, coming in states:
        for amounts, rest in lettings(yard, lying, moment):
            if fits(yard, rest):
                let = [(moment + pipe[2], pipe[1], a) for pipe, a in zip(yard[1], amounts) if a > 0]
                ahead = list(rest)
                for when, vat, amount in list(coming) + let:
                    ahead[vat] += amount if when == moment + 1 else 0
                left = {}
                for when, vat, amount in list(coming) + let:
                    if when > moment + 1:
                        left[when, vat] = left.get((when, vat), 0) + amount
                found.add((tuple(ahead), tuple(sorted((w, v, a) for (w, v), a in left.items()))))
    return found


class AllPlans(unittest.TestCase):
    def check_met(self, yard, wants, until, found):
        kind, told = met_at(yard, list(wants), until)
        could = any(all(held >= want for held, want in zip(lying, wants)) for lying in found)
        self.assertEqual(kind, "plan" if could else "shut", (yard, wants, until))
        if could:
            last = played(yard, told, until)[until]
            self.assertTrue(all(held >= want for held, want in zip(last, wants)))
            self.assertTrue(all(moment + yard[1][pipe][2] <= until for moment, pipe, amount in told))
        else:
            wanted = sum(wants[vat] for moment, vat in told if moment == until)
            self.assertLess(lets_in(yard, told, until), wanted)
        return kind

    def check_parts(self, chance, yard, until, found):
        """No plan brings more into a part than it lets in."""
        places = [(moment, vat) for moment in range(until + 1) for vat in range(len(yard[0]))]
        for again in range(10):
            share = chance.random()
            part = [place for place in places if chance.random() < share]
            most = lets_in(yard, part, until)
            vats = [vat for moment, vat in part if moment == until]
            for lying in found:
                self.assertLessEqual(sum(lying[vat] for vat in vats), most)

    def test_small_yards(self):
        kinds = {"plan": 0, "shut": 0}
        for seed in range(500):
            chance = random.Random(seed)
            yard = some_yard(chance)
            for until, found in enumerate(ends(yard, 4)):
                for wants in itertools.product(*[range(room + 1) for name, room, fill in yard[0]]):
                    kinds[self.check_met(yard, wants, until, found)] += 1
                for vat in range(len(yard[0])):
                    most = max(lying[vat] for lying in found)
                    self.assertEqual(most_at(yard, vat, until)[0], most, (yard, vat, until))
                self.check_parts(chance, yard, until, found)
        self.assertGreater(min(kinds.values()), 500)


if __name__ == "__main__":
    unittest.main()
