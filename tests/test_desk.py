"""Point 23: the desk's rows and its answers to them."""

import random
import unittest

from vatyard.cheap import cheap_plan
from vatyard.desk import Desk
from vatyard.meeting import most_at
from vatyard.player import played
from vatyard.waiting import soonest
from vatyard.yards import read, shown

MOST = 10 ** 12

YARD = "vat a 9 9\nvat b 9 0\nvat c 4 1\npipe a b 1 10 steady 3\npipe a c 1 2 tidal 2 1 2\npipe c b 2 1 late 4 2"


def desk_of(text):
    desk = Desk()
    for row in text.split("\n"):
        desk.say(row)
    return desk


def told_lettings(plan):
    return "".join(f"; {moment} {pipe} {amount}" for moment, pipe, amount in plan)


class OfDesk(unittest.TestCase):
    def say(self, desk, row, answer):
        told = desk.say(row)
        self.assertIs(type(told), str)
        self.assertEqual(told, answer, row)

    def say_all(self, desk, rows):
        """Rows that are answered by `ok`."""
        for row in rows:
            self.say(desk, row, "ok")

    def check_met(self, desk, last, moment, wants):
        """The answer is met at this moment, by a plan after which there lies as much as is wanted, by the names."""
        parts = desk.say(f"soonest {last}").split("; ")
        self.assertEqual(parts[0], f"met {moment}")
        yard = read(desk.say("show"))
        plan = [tuple(int(word) for word in part.split(" ")) for part in parts[1:]]
        self.assertEqual("; ".join(parts[:1]) + told_lettings(plan), desk.say(f"soonest {last}"))
        lying = dict(zip([vat[0] for vat in yard[0]], played(yard, plan, moment)[moment]))
        for name, want in wants.items():
            self.assertGreaterEqual(lying[name], want)

    def check_never(self, desk, last, wants):
        """The answer is never, with the names of vats that show it, in the order of their numbers."""
        parts = desk.say(f"soonest {last}").split(" ")
        self.assertEqual(parts[0], "never")
        yard = read(desk.say("show"))
        names = [vat[0] for vat in yard[0]]
        self.assertEqual(parts[1:], [name for name in names if name in parts[1:]])
        for start, goal, length, price, gate in yard[1]:
            self.assertTrue(names[start] in parts[1:] or names[goal] not in parts[1:])
        wanted = sum(wants.get(name, 0) for name in parts[1:])
        self.assertGreater(wanted, sum(vat[2] for vat in yard[0] if vat[0] in parts[1:]))


class RowsOfTheYard(OfDesk):
    def test_a_new_desk(self):
        self.say(Desk(), "show", "")
        self.say(Desk(), "forget", "ok")
        self.say(Desk(), "vat a 5 3", "ok")

    def test_vats_and_pipes(self):
        desk = Desk()
        for number, row in enumerate(YARD.split("\n")):
            self.say(desk, row, "ok")
            self.say(desk, "show", "\n".join(YARD.split("\n")[:number + 1]))

    def test_what_show_tells_is_read(self):
        great = "vat vat 1000000000000 1000000000000\nvat pipe 3 2\npipe vat pipe 20 0 late 1 60"
        for text in (YARD, "vat a 0 0", great):
            desk = desk_of(text)
            self.say(desk, "show", text)
            self.assertEqual(shown(read(desk.say("show"))), text)
            self.say(desk, "show", text)

    def test_twelve_vats_and_24_pipes(self):
        rows = [f"vat {name} 9 1" for name in "abcdefghijkl"]
        rows += [f"pipe {'abcdefghijkl'[k % 12]} {'bcdefghijkla'[k % 12]} 1 0 steady 1" for k in range(24)]
        desk = Desk()
        self.say_all(desk, rows)
        self.say(desk, "show", "\n".join(rows))
        self.say(desk, "most a 60", "9")

    def test_wants_are_not_shown(self):
        desk = desk_of(YARD)
        self.say(desk, "want b 5", "ok")
        self.say(desk, "show", YARD)


class Wants(OfDesk):
    def test_they_are_0_in_the_beginning(self):
        desk = desk_of(YARD)
        self.say(desk, "soonest 0", "met 0")
        self.say(desk, "cheap 0", "price 0")

    def test_a_want(self):
        desk = desk_of(YARD)
        self.say(desk, "want b 3", "ok")
        self.say(desk, "soonest 0", "later")
        self.check_met(desk, 1, 1, {"b": 3})
        self.say(desk, "cheap 1", "price 30; 0 0 3")

    def test_a_want_told_twice(self):
        desk = desk_of(YARD)
        self.say_all(desk, ["want b 9", "want b 2"])
        self.say(desk, "cheap 1", "price 20; 0 0 2")
        self.say(desk, "want b 0", "ok")
        self.say(desk, "cheap 1", "price 0")
        self.say_all(desk, ["want b 1", "want b 1", "want b 3"])
        self.say(desk, "cheap 1", "price 30; 0 0 3")

    def test_wants_of_several_vats(self):
        desk = desk_of("vat a 9 9\nvat b 9 0\nvat c 9 0\npipe a b 1 1 steady 9\npipe a c 1 1 steady 9")
        self.say_all(desk, ["want c 4", "want b 5"])
        self.say(desk, "soonest 1", "met 1; 0 0 5; 0 1 4")
        self.say(desk, "want a 1", "ok")
        self.say(desk, "soonest 1", "never a b c")
        self.say(desk, "want c 3", "ok")
        self.say(desk, "soonest 60", "met 1; 0 0 5; 0 1 3")

    def test_vats_behind_wants(self):
        desk = Desk()
        self.say_all(desk, ["vat a 9 4", "want a 5", "vat b 9 1", "vat c 9 0"])
        self.check_never(desk, 60, {"a": 5})
        self.say_all(desk, ["pipe b a 3 7 steady 1"])
        self.say(desk, "soonest 60", "met 3; 0 0 1")
        self.say_all(desk, ["want c 0", "want b 0"])
        self.say(desk, "soonest 60", "met 3; 0 0 1")
        self.say(desk, "cheap 3", "price 7; 0 0 1")

    def test_pipes_behind_wants(self):
        desk = desk_of("vat a 9 9\nvat b 9 0")
        self.say(desk, "want b 2", "ok")
        self.check_never(desk, 60, {"b": 2})
        self.say(desk, "pipe a b 4 1 steady 2", "ok")
        self.say(desk, "soonest 60", "met 4; 0 0 2")
        self.say(desk, "pipe a b 1 5 steady 2", "ok")
        self.say(desk, "soonest 60", "met 1; 0 1 2")

    def test_an_amount_of_the_room(self):
        desk = desk_of(YARD)
        self.say_all(desk, ["want a 9", "want b 9", "want c 4", "want c 0", "want b 0"])
        self.say(desk, "soonest 3", "met 0")
        great = desk_of(f"vat a {MOST} {MOST}\nvat b {MOST} 0\npipe a b 1 1000000 steady {MOST}")
        self.say(great, f"want b {MOST}", "ok")
        self.say(great, "cheap 1", f"price {MOST * 1000000}; 0 0 {MOST}")


class Asking(OfDesk):
    def test_most(self):
        desk = desk_of(YARD)
        for row, answer in (("most a 0", "9"), ("most b 0", "0"), ("most c 0", "1"), ("most b 1", "3"),
                            ("most c 1", "3"), ("most c 2", "4"), ("most b 60", "9"), ("most a 60", "9")):
            self.say(desk, row, answer)
        self.say(desk, "want b 9", "ok")
        self.say(desk, "most b 1", "3")

    def test_soonest_never(self):
        desk = desk_of("vat a 9 3\nvat b 9 9\npipe a b 1 0 steady 1")
        self.say(desk, "want a 4", "ok")
        for last in (0, 1, 60):
            self.say(desk, f"soonest {last}", "never a")
        self.say(desk, "want b 9", "ok")
        self.check_never(desk, 60, {"a": 4, "b": 9})
        self.say_all(desk, ["want a 3", "want b 9"])
        self.say(desk, "soonest 60", "met 0")

    def test_soonest_later_and_met(self):
        desk = desk_of("vat a 200 200\nvat b 200 0\npipe a b 20 1 steady 3")
        self.say(desk, "want b 123", "ok")
        self.say(desk, "soonest 59", "later")
        self.say(desk, "soonest 60", "met 60" + told_lettings((moment, 0, 3) for moment in range(41)))
        self.say(desk, "want b 124", "ok")
        self.say(desk, "soonest 60", "later")
        self.say(desk, "cheap 60", "none")

    def test_plans_without_lettings(self):
        desk = desk_of(YARD)
        self.say_all(desk, ["want a 9", "want c 1"])
        for moment in (0, 1, 9, 60):
            self.say(desk, f"soonest {moment}", "met 0")
            self.say(desk, f"cheap {moment}", "price 0")

    def test_cheap(self):
        desk = desk_of("vat a 9 9\nvat b 9 0\npipe a b 1 10 steady 3\npipe a b 3 4 steady 2")
        self.say(desk, "want b 3", "ok")
        self.say(desk, "cheap 0", "none")
        self.say(desk, "cheap 1", "price 30; 0 0 3")
        by_3 = ["price 18; 0 0 1; 0 1 2", "price 18; 0 1 2; 1 0 1", "price 18; 0 1 2; 2 0 1"]
        self.assertIn(desk.say("cheap 3"), by_3)
        self.assertIn(desk.say("cheap 4"), ["price 12; 0 1 1; 1 1 2", "price 12; 0 1 2; 1 1 1"])

    def test_asking_changes_nothing(self):
        desk = desk_of(YARD)
        self.say(desk, "want b 9", "ok")
        rows = ["show", "most b 7", "soonest 60", "soonest 2", "cheap 9", "cheap 2"]
        answers = [desk.say(row) for row in rows]
        for again in range(3):
            self.assertEqual([desk.say(row) for row in rows], answers)
        self.assertEqual(answers[3], "later")
        self.assertEqual(answers[5], "none")


class Forgetting(OfDesk):
    def test_forget(self):
        desk = desk_of(YARD)
        self.say_all(desk, ["want b 9", "forget"])
        self.say(desk, "show", "")
        self.say(desk, "forget", "ok")
        self.say(desk, "show", "")
        # vats again, though there were pipes; and the want of the second one is 0 again
        self.say_all(desk, ["vat a 5 3", "vat b 5 2"])
        self.say(desk, "show", "vat a 5 3\nvat b 5 2")
        self.say(desk, "soonest 60", "met 0")
        self.say_all(desk, ["want b 2", "want a 3"])
        self.say(desk, "soonest 60", "met 0")

    def test_the_same_rows_again(self):
        desk = Desk()
        for again in range(3):
            self.say_all(desk, YARD.split("\n") + ["want b 3"])
            self.check_met(desk, 1, 1, {"b": 3})
            self.say(desk, "forget", "ok")

    def test_two_desks(self):
        first = Desk()
        second = Desk()
        self.say_all(first, ["vat a 9 9", "vat b 9 0"])
        self.say(second, "show", "")
        self.say_all(second, ["vat b 7 0", "vat a 7 7", "want a 6"])
        self.say_all(first, ["want b 1", "pipe a b 1 1 steady 1"])
        self.say(second, "soonest 9", "met 0")
        self.say(first, "soonest 9", "met 1; 0 0 1")
        self.say(second, "forget", "ok")
        self.say(first, "show", "vat a 9 9\nvat b 9 0\npipe a b 1 1 steady 1")
        self.say(first, "soonest 9", "met 1; 0 0 1")
        self.say(Desk(), "show", "")


class OwnWords(OfDesk):
    def test_names_that_are_the_desks_own_words(self):
        words = ["vat", "pipe", "want", "show", "most", "soonest", "cheap", "forget", "steady", "late", "tidal", "met"]
        desk = Desk()
        self.say_all(desk, [f"vat {word} 9 1" for word in words])
        self.say_all(desk, [f"pipe vat {word} 1 3 late 1 0" for word in words[1:]])
        for word in words[1:]:
            self.say(desk, f"want {word} 2", "ok")
            number = words.index(word) - 1
            self.check_met(desk, 9, 1, {word: 2})
            self.say(desk, "cheap 1", f"price 3; 0 {number} 1")
            self.say(desk, f"most {word} 60", "2")
            self.say(desk, f"want {word} 1", "ok")
        self.say(desk, "want vat 2", "ok")
        wants = dict.fromkeys(words, 1)
        wants["vat"] = 2
        self.check_never(desk, 60, wants)

    def test_never_with_such_names(self):
        desk = desk_of("vat never 9 1\nvat ok 9 1\nvat none 9 9")
        self.say_all(desk, ["pipe never ok 1 0 steady 1", "pipe ok never 1 0 steady 1"])
        self.say(desk, "want ok 3", "ok")
        self.check_never(desk, 9, {"ok": 3})


class AsTheFunctionsTell(OfDesk):
    def some_rows(self, chance):
        names = chance.sample(["a", "b", "c", "abcdefgh", "zz", "vat", "show"], chance.randint(2, 6))
        rows = []
        for name in names:
            room = chance.choice((9, 30, MOST))
            rows.append(f"vat {name} {room} {chance.randint(0, room)}")
        for number in range(chance.randint(1, 10)):
            start, goal = chance.sample(names, 2)
            wide = chance.randint(1, 20)
            gate = chance.choice([f"steady {wide}", f"late {wide} {chance.randint(0, 5)}", f"tidal {wide} 2 3"])
            rows.append(f"pipe {start} {goal} {chance.randint(1, 4)} {chance.randint(0, 99)} {gate}")
        return rows

    def check_answers(self, desk, yard, wants, moment):
        told = soonest(yard, wants, moment)
        if told[0] == "never":
            answer = "never" + "".join(" " + yard[0][vat][0] for vat in told[1])
        elif told[0] == "met":
            answer = f"met {told[1]}" + told_lettings(told[2])
        else:
            answer = "later"
        self.say(desk, f"soonest {moment}", answer)
        told_cheap = cheap_plan(yard, wants, moment)
        price = "none" if told_cheap is None else f"price {told_cheap[1]}" + told_lettings(told_cheap[0])
        self.say(desk, f"cheap {moment}", price)
        for vat, (name, room, fill) in enumerate(yard[0]):
            self.say(desk, f"most {name} {moment}", str(most_at(yard, vat, moment)[0]))
        return told[0]

    def test_some_yards(self):
        seen = []
        for seed in range(60):
            chance = random.Random(seed)
            rows = self.some_rows(chance)
            desk = Desk()
            self.say_all(desk, rows)
            yard = read("\n".join(rows))
            wants = [0] * len(yard[0])
            for again in range(4):
                vat = chance.randrange(len(wants))
                wants[vat] = min(yard[0][vat][1], yard[0][vat][2] + chance.randint(-3, 7))
                wants[vat] = max(wants[vat], 0)
                self.say(desk, f"want {yard[0][vat][0]} {wants[vat]}", "ok")
                seen.append(self.check_answers(desk, yard, wants, chance.choice((1, 2, 5, 12))))
        for word in ("never", "met", "later"):
            self.assertGreater(seen.count(word), 10)


if __name__ == "__main__":
    unittest.main()
