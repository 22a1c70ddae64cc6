"""Point 22 on small yards, against a search through all plans."""

import itertools
import random
import unittest

from test_cheap import OfCheapPlans
from test_meeting_search import fits, lettings, some_yard

LAST = 4


def states_behind(yard, states, moment):
    """The states (what lies, what comes when and where) at the next moment, each with its least price."""
    found = {}
    for (lying, coming), price in states.items():
        for amounts, rest in lettings(yard, lying, moment):
            if fits(yard, rest):
                under_way = dict(coming)
                paid = price
                for pipe, amount in zip(yard[1], amounts):
                    if amount > 0:
                        place = (moment + pipe[2], pipe[1])
                        under_way[place] = under_way.get(place, 0) + amount
                        paid += amount * pipe[3]
                ahead = [held + under_way.pop((moment + 1, vat), 0) for vat, held in enumerate(rest)]
                state = (tuple(ahead), tuple(sorted(under_way.items())))
                found[state] = min(paid, found.get(state, paid))
    return found


def least_prices(yard):
    """For each moment, what can lie in the vats with nothing under way, and the least price of it."""
    states = {(tuple(vat[2] for vat in yard[0]), ()): 0}
    told = []
    for moment in range(LAST + 1):
        told.append({state[0]: price for state, price in states.items() if not state[1] and fits(yard, state[0])})
        states = states_behind(yard, states, moment)
    return told


class AllPlans(OfCheapPlans):
    def some_priced_yard(self, chance):
        yard = some_yard(chance)
        dear = chance.choice((1, 3, 20, 1000000))
        return (yard[0], [pipe[:3] + (chance.randint(0, dear),) + pipe[4:] for pipe in yard[1]])

    def test_small_yards(self):
        kinds = {"none": 0, "free": 0, "paid": 0}
        for seed in range(600):
            chance = random.Random(seed)
            yard = self.some_priced_yard(chance)
            found = least_prices(yard)
            wanted = list(itertools.product(*[range(room + 1) for name, room, fill in yard[0]]))
            for wants in chance.sample(wanted, min(len(wanted), 12)):
                for until, prices in enumerate(found):
                    met = [price for lying, price in prices.items() if all(h >= w for h, w in zip(lying, wants))]
                    told = self.check(yard, list(wants), until)
                    self.assertEqual(told, min(met, default=None), (yard, wants, until))
                    kinds["none" if told is None else "paid" if told > 0 else "free"] += 1
        self.assertGreater(min(kinds.values()), 500)


if __name__ == "__main__":
    unittest.main()
