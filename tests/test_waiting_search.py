"""Point 20 on small yards, against a search through all plans."""

import itertools
import random
import unittest

from test_meeting_search import ends, some_yard
from vatyard.meeting import lets_in
from vatyard.player import played
from vatyard.waiting import cut_off, soonest, surely

LAST = 4


def meets(lying, wants):
    return all(held >= want for held, want in zip(lying, wants))


class AllPlans(unittest.TestCase):
    def check_part(self, yard, wants, part, until):
        wanted = sum(wants[vat] for moment, vat in part if moment == until)
        self.assertLess(lets_in(yard, part, until), wanted)

    def check(self, yard, wants, found):
        """Asks for each last moment; tells what was answered last."""
        firsts = [moment for moment, all_lying in enumerate(found) if any(meets(lying, wants) for lying in all_lying)]
        never = cut_off(yard, wants)
        if never is not None:
            self.assertEqual(firsts, [], (yard, wants))
        for last in range(LAST + 1):
            told = soonest(yard, list(wants), last)
            if never is not None:
                self.assertEqual(told, ("never", never))
            elif firsts and firsts[0] <= last:
                self.assertEqual(told[:2], ("met", firsts[0]), (yard, wants))
                self.assertTrue(meets(played(yard, told[2], told[1])[-1], wants))
                self.assertEqual(told[1] == 0, told[3] == [])
                if told[3]:
                    self.check_part(yard, wants, told[3], told[1] - 1)
            else:
                self.assertEqual(told[0], "later", (yard, wants))
                self.check_part(yard, wants, told[1], last)
        # all of point 19 that so few moments can show
        if never is None and surely(yard, wants) <= LAST:
            self.assertEqual(told[0], "met")
        return told[0] + str(told[1] if told[0] == "met" else "")

    def test_small_yards(self):
        kinds = {}
        for seed in range(500):
            chance = random.Random(1000 + seed)
            yard = some_yard(chance)
            found = ends(yard, LAST)
            for wants in itertools.product(*[range(room + 1) for name, room, fill in yard[0]]):
                kind = self.check(yard, wants, found)
                kinds[kind] = kinds.get(kind, 0) + 1
        for kind in ("never", "later", "met0", "met1", "met2", "met3", "met4"):
            self.assertGreater(kinds[kind], 20, kind)


if __name__ == "__main__":
    unittest.main()
