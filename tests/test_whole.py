"""Point 3, over the whole program, from a text on; and the interface's names and arguments."""

import inspect
import random
import unittest

from vatyard import cheap, desk, errors, flows, gates, meeting, nets, player, rings, waiting, yards
from vatyard.cheap import cheap_plan
from vatyard.desk import Desk
from vatyard.meeting import lets_in
from vatyard.player import Play, played, price_of
from vatyard.waiting import soonest, surely
from vatyard.yards import read, shown

MOST = 10 ** 12

TEXT = """vat spring 60 50
vat mill 6 0
vat lock 0 0
vat port 40 3
vat isle 9 2
pipe spring mill 2 4 steady 5
pipe spring lock 1 1 tidal 1 6 3
pipe lock port 3 2 late 4 5
pipe mill port 1 7 steady 3
pipe port spring 4 0 steady 9
pipe isle port 20 100 late 9 40"""


def some_text(chance):
    count = chance.choice((1, 2, 4, 8, 12))
    most = chance.choice((3, 40, MOST))
    names = [f"vat{letter}" for letter in "abcdefghijkl"[:count]]
    rows = []
    for name in names:
        room = chance.randint(0, most)
        rows.append(f"vat {name} {room} {chance.choice((0, room, chance.randint(0, room)))}")
    for number in range(chance.randint(count, 2 * count) if count > 1 else 0):
        start, goal = chance.sample(names, 2)
        wide = [chance.randint(1, max(most // 3, 1)) for again in range(2)]
        gate = chance.choice([
            f"steady {wide[0]}", f"late {wide[0]} {chance.randint(0, 12)}",
            f"tidal {wide[0]} {wide[1]} {chance.randint(2, 20)}",
        ])
        length = chance.choice((1, 1, 2, 3, chance.randint(1, 20)))
        rows.append(f"pipe {start} {goal} {length} {chance.choice((0, 5, 1000000))} {gate}")
    return "\n".join(rows)


def some_plan(chance, yard, until):
    """Lettings by chance that the player doesn't refuse; what lies there is never more than the room."""
    play = Play(yard)
    plan = []
    bound = play.holds()
    while play.now() < until:
        for number in chance.sample(range(len(yard[1])), len(yard[1])):
            start, goal = yard[1][number][:2]
            amount = min(play.room_in(number), play.holds()[start], yard[0][goal][1] - bound[goal])
            if amount > 0 and chance.random() < 0.6:
                play.let(number, amount)
                bound[start] -= amount
                bound[goal] += amount
                plan.append((play.now(), number, amount))
        play.go_on()
    return plan


class ThePromise(unittest.TestCase):
    def meets(self, yard, wants, plan, until):
        return all(held >= want for held, want in zip(played(yard, plan, until)[until], wants))

    def check_part(self, yard, wants, part, until):
        wanted = sum(wants[vat] for moment, vat in part if moment == until)
        self.assertLess(lets_in(yard, part, until), wanted)

    def check_cheap(self, yard, wants, moment, plan):
        """The cheapest one costs no more than this plan, which leaves nothing under way."""
        told = cheap_plan(yard, wants, moment)
        self.assertTrue(self.meets(yard, wants, told[0], moment))
        self.assertTrue(all(when + yard[1][pipe][2] <= moment for when, pipe, amount in told[0]))
        self.assertEqual(told[1], price_of(yard, told[0]))
        self.assertLessEqual(told[1], price_of(yard, plan))
        return told[1]

    def check(self, text, wants, last):
        yard = read(text)
        self.assertEqual(shown(yard), text)
        told = soonest(yard, wants, last)
        if told[0] == "never":
            self.assertGreater(sum(wants[vat] for vat in told[1]), sum(yard[0][vat][2] for vat in told[1]))
            for pipe in yard[1]:
                self.assertTrue(pipe[0] in told[1] or pipe[1] not in told[1])
            self.assertIsNone(cheap_plan(yard, wants, last))
        elif told[0] == "met":
            moment = told[1]
            self.assertTrue(0 <= moment <= last)
            self.assertTrue(self.meets(yard, wants, told[2], moment))
            if moment > 0:
                self.check_part(yard, wants, told[3], moment - 1)
                self.assertIsNone(cheap_plan(yard, wants, moment - 1))
            price = self.check_cheap(yard, wants, moment, told[2])
            self.assertLessEqual(self.check_cheap(yard, wants, last, told[2]), price)
        else:
            self.assertEqual(told[0], "later")
            self.assertGreater(surely(yard, wants), last)
            self.check_part(yard, wants, told[1], last)
            self.assertIsNone(cheap_plan(yard, wants, last))
        self.assertEqual(shown(yard), text)
        return told

    def test_a_yard(self):
        self.assertEqual(self.check(TEXT, [0, 0, 0, 0, 0], 60)[:2], ("met", 0))
        self.assertEqual(self.check(TEXT, [50, 0, 0, 3, 2], 60)[:2], ("met", 0))
        self.assertEqual(self.check(TEXT, [0, 0, 0, 6, 0], 60)[:2], ("met", 3))
        self.assertEqual(self.check(TEXT, [0, 0, 0, 6, 0], 2)[0], "later")
        self.assertEqual(self.check(TEXT, [53, 0, 0, 0, 0], 60)[:2], ("met", 4))
        # all that there is, and isle's two are in the port at 60, in the spring at 64
        self.assertEqual(self.check(TEXT, [15, 0, 0, 40, 0], 60)[:2], ("met", 60))
        self.assertEqual(self.check(TEXT, [15, 0, 0, 40, 0], 59)[0], "later")
        self.assertEqual(self.check(TEXT, [55, 0, 0, 0, 0], 60)[0], "later")
        self.assertEqual(self.check(TEXT, [0, 0, 0, 0, 3], 60), ("never", [4]))
        self.assertEqual(self.check(TEXT, [50, 6, 0, 0, 0], 60)[0], "never")

    def test_the_same_at_the_desk(self):
        told = Desk()
        for row in TEXT.split("\n"):
            self.assertEqual(told.say(row), "ok")
        self.assertEqual(told.say("want isle 3"), "ok")
        self.assertEqual(told.say("soonest 60"), "never isle")
        self.assertEqual(told.say("want isle 2"), "ok")
        self.assertEqual(told.say("want port 6"), "ok")
        self.assertEqual(told.say("soonest 60").partition(";")[0], "met 3")
        self.assertEqual(told.say("cheap 3"), "price 33; 0 0 3; 2 3 3")
        self.assertEqual(told.say("cheap 60").partition(";")[0], "price 9")

    def test_some_texts(self):
        seen = {}
        for seed in range(120):
            chance = random.Random(seed)
            text = some_text(chance)
            yard = read(text)
            wants = [chance.randint(0, vat[1]) for vat in yard[0]]
            while sum(wants) * 10 > sum(vat[2] for vat in yard[0]) * chance.choice((3, 6, 10)):
                wants = [want * chance.randint(0, 4) // 4 for want in wants]
            told = self.check(text, wants, chance.choice((60, 60, 20, 3, 0)))[0]
            seen[told] = seen.get(told, 0) + 1
        for word in ("never", "met", "later"):
            self.assertGreater(seen[word], 5)

    def test_what_some_plan_does_is_met(self):
        # whatever a plan by chance brings about is met by then, and for no more where nothing is under way
        cheaper = 0
        for seed in range(60):
            chance = random.Random(seed)
            yard = read(some_text(chance))
            until = chance.randint(0, 20)
            plan = some_plan(chance, yard, until)
            wants = played(yard, plan, until)[until]
            told = self.check(shown(yard), wants, until)
            self.assertEqual(told[0], "met")
            if all(moment + yard[1][pipe][2] <= until for moment, pipe, amount in plan):
                price = self.check_cheap(yard, wants, until, plan)
                cheaper += price < price_of(yard, plan)
        self.assertGreater(cheaper, 0)


PLACES = {
    gates: {"gate_of": 1, "width": 2, "Gate": 0, "Steady": 1, "Late": 2, "Tidal": 3},
    yards: {"read": 1, "shown": 1},
    player: {"Play": 1, "played": 3, "price_of": 2},
    flows: {"worth": 3, "greatest": 5},
    nets: {"node": 3, "spot": 2, "net": 3, "flow_of": 4, "plan_of": 3},
    meeting: {"lets_in": 3, "met_at": 3, "most_at": 3},
    waiting: {"cut_off": 2, "surely": 2, "soonest": 3},
    rings: {"flow_price": 2, "cheapest": 4},
    cheap: {"cheap_plan": 3},
    desk: {"Desk": 0},
}
METHODS = {
    gates.Gate: {"width_at": 1}, gates.Steady: {"width_at": 1}, gates.Late: {"width_at": 1},
    gates.Tidal: {"width_at": 1}, desk.Desk: {"say": 1},
    player.Play: {"now": 0, "holds": 0, "under_way": 0, "room_in": 1, "full": 0, "let": 2, "go_on": 0},
}


class TheInterface(unittest.TestCase):
    def test_names_and_arguments(self):
        for module, names in PLACES.items():
            for name, count in names.items():
                with self.subTest(name=name):
                    self.assertEqual(len(inspect.signature(getattr(module, name)).parameters), count)
                    self.assertEqual(getattr(module, name).__module__, module.__name__)
        for told, names in METHODS.items():
            for name, count in names.items():
                with self.subTest(name=name):
                    self.assertEqual(len(inspect.signature(getattr(told, name)).parameters), count + 1)

    def test_the_refusals(self):
        found = [told for told in vars(errors).values() if isinstance(told, type)]
        self.assertEqual(len(found), 10)
        for told in found:
            self.assertEqual(told.__bases__, (ValueError,) if told is errors.YardError else (errors.YardError,))


if __name__ == "__main__":
    unittest.main()
