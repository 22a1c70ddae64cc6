"""Point 24: rows that the desk refuses, which refusal goes first, and that nothing is changed by it.

What is asked of rows near to good ones is reckoned here a second time, by patterns, from the document.
"""

import random
import re
import unittest

from vatyard import errors
from vatyard.desk import Desk
from vatyard.errors import NoMeasure, NoName, NoRow, YardError

OTHERS = ("NoRow", "NoName", "NoMeasure", "NoPipe", "NoAmount", "NoMoment", "TooWide", "TooLittle", "TooFull")
VATS = ["vat a 9 9", "vat b 20 0"]
PIPES = ["pipe a b 2 3 steady 5"]
ASKING = ["show", "most a 7", "most b 60", "soonest 60", "soonest 1", "cheap 60", "cheap 1"]
# Rows that are good behind VATS, one of each form.
GOOD_ROWS = (
    "vat c 9 1", "pipe a b 5 6 steady 7", "pipe b a 5 6 late 7 8", "pipe a b 5 6 tidal 7 8 9", "want b 7", "show",
    "most b 7", "soonest 7", "cheap 7", "forget",
)
NAMES = ((1,), (1, 2), (1, 2), (1, 2), (1,), (), (1,), (), (), ())
NUMBERS = ((2, 3), (3, 4, 6), (3, 4, 6, 7), (3, 4, 6, 7, 8), (2,), (), (2,), (1,), (1,), ())
BAD_NUMBERS = (
    "", "-1", "+1", "-0", "00", "01", "007", "10000000000000", "00000000000001", "99999999999999", "1x", "x", "1.0",
    "1_0", "1e3", "0x1", "O", "~", "7\n", "\n7",
)
BAD_NAMES = ("", "abcdefghi", "A", "aB", "a1", "1", "a-b", "a_b", "{", "`", "~", "b\n", "\nb", "a\nb")
SIGNS = ["\n"] + [chr(code) for code in range(32, 127) if chr(code) != "%"]

NAME = "[a-z]{1,8}"
NUMBER = "(?:0|[1-9][0-9]{0,12})"
GATE = f"(?:steady {NUMBER}|late {NUMBER} {NUMBER}|tidal {NUMBER} {NUMBER} {NUMBER})"
FORMS = (
    f"vat {NAME} {NUMBER} {NUMBER}", f"pipe {NAME} {NAME} {NUMBER} {NUMBER} {GATE}", f"want {NAME} {NUMBER}", "show",
    f"most {NAME} {NUMBER}", f"soonest {NUMBER}", f"cheap {NUMBER}", "forget",
)
WIDE = (1, 10 ** 12)
GATE_BOUNDS = {"steady": (WIDE,), "late": (WIDE, (0, 60)), "tidal": (WIDE, WIDE, (2, 20))}


def verdict(rooms, pipes, row):
    """The class by which a row is refused, or None; of a desk with these rooms by names and so many pipes."""
    words = row.split(" ")
    word = words[0]
    if not any(re.fullmatch(form, row) for form in FORMS):
        return NoRow
    if word == "vat" and (pipes > 0 or len(rooms) == 12) or word == "pipe" and pipes == 24:
        return NoRow
    names = {"pipe": words[1:3], "want": words[1:2], "most": words[1:2]}.get(word, [])
    if word == "vat" and words[1] in rooms or any(name not in rooms for name in names):
        return NoName
    if word in ("soonest", "cheap") and not rooms:
        return NoName
    numbers = [int(told) for told in words if re.fullmatch("[0-9]+", told)]
    bounds = ()
    if word == "vat":
        bounds = ((0, 10 ** 12), (0, numbers[0]))
    if word == "pipe":
        bounds = ((1, 20), (0, 10 ** 6)) + GATE_BOUNDS[words[5]]
    if word == "want":
        bounds = ((0, rooms[words[1]]),)
    if word in ("most", "soonest", "cheap"):
        bounds = ((0, 60),)
    within = all(least <= number <= most for number, (least, most) in zip(numbers, bounds, strict=True))
    if not within or word == "pipe" and words[1] == words[2]:
        return NoMeasure
    return None


def desk_of(rows):
    desk = Desk()
    for row in rows:
        desk.say(row)
    return desk


def with_word(row, place, word):
    words = row.split(" ")
    words[place] = word
    return " ".join(words)


class OfRefusals(unittest.TestCase):
    def check_class(self, error, refusal):
        self.assertIsInstance(error, YardError)
        bears = [name for name in OTHERS if isinstance(error, getattr(errors, name))]
        self.assertEqual(bears, [refusal.__name__])

    def refused(self, desk, row, refusal):
        with self.subTest(row=row):
            with self.assertRaises(YardError) as caught:
                desk.say(row)
            self.check_class(caught.exception, refusal)

    def refused_on(self, rows, row, refusal):
        """Refused behind these rows, again and again, and nothing is changed by it."""
        desk = desk_of(rows)
        self.refused(desk, row, refusal)
        self.refused(desk, row, refusal)
        other = desk_of(rows)
        self.assertEqual(desk.say("show"), other.say("show"))
        if desk.say("show"):
            self.assertEqual([desk.say(told) for told in ASKING], [other.say(told) for told in ASKING])


class NoForm(OfRefusals):
    def test_the_good_rows_are_good(self):
        for row in GOOD_ROWS:
            desk_of(VATS + [row])

    def test_no_signs_and_blanks(self):
        for row in ("", " ", "  ", "\n", "\n\n", " \n"):
            self.refused(Desk(), row, NoRow)
            self.refused_on(VATS, row, NoRow)
            self.refused_on(VATS + PIPES, row, NoRow)

    def test_a_word_lacking_or_too_many(self):
        for row in GOOD_ROWS:
            words = row.split(" ")
            for place in range(len(words)):
                self.refused_on(VATS, " ".join(words[:place] + words[place + 1:]), NoRow)
            for place in range(len(words) + 1):
                for extra in ("1", "a", "b", words[place - 1]):
                    self.refused_on(VATS, " ".join(words[:place] + [extra] + words[place:]), NoRow)

    def test_blanks_ahead_behind_and_doubled(self):
        for row in GOOD_ROWS:
            self.refused_on(VATS, " " + row, NoRow)
            self.refused_on(VATS, row + " ", NoRow)
            for place in range(len(row)):
                if row[place] == " ":
                    self.refused_on(VATS, row[:place] + " " + row[place:], NoRow)

    def test_line_feeds(self):
        for row in GOOD_ROWS:
            self.refused_on(VATS, "\n" + row, NoRow)
            self.refused_on(VATS, row + "\n", NoRow)
            self.refused_on(VATS, row.replace(" ", "\n") + "\n", NoRow)
            for other in GOOD_ROWS:
                self.refused_on(VATS, row + "\n" + other, NoRow)

    def test_names_and_numbers_written_otherwise(self):
        for row, names, numbers in zip(GOOD_ROWS, NAMES, NUMBERS):
            for place in names:
                for name in BAD_NAMES:
                    self.refused_on(VATS, with_word(row, place, name), NoRow)
            for place in numbers:
                for number in BAD_NUMBERS:
                    self.refused_on(VATS, with_word(row, place, number), NoRow)

    def test_words_written_otherwise(self):
        for row in GOOD_ROWS:
            word = row.split(" ")[0]
            for other in (word.upper(), word.title(), word + "s", word[:-1], "x" + word, "", "ok", "met", "yard"):
                self.refused_on(VATS, with_word(row, 0, other), NoRow)
        for gate in ("Steady", "steadys", "stead", "open", ""):
            self.refused_on(VATS, f"pipe a b 5 6 {gate} 7", NoRow)
        for row in ("pipe a b 5 6 steady 7 8", "pipe a b 5 6 late 7", "pipe a b 5 6 tidal 7 8"):
            self.refused_on(VATS, row, NoRow)

    def test_rows_one_form_for_another(self):
        for row in ("show a", "show 1", "forget a", "soonest", "cheap", "soonest a", "cheap b", "soonest a 7",
                    "cheap a 7", "most a", "most 7", "most 7 a", "want a", "want 7", "want 7 a", "vat", "pipe",
                    "most a 7 7", "want a b 7"):
            self.refused_on(VATS, row, NoRow)

    def test_a_vat_behind_a_pipe(self):
        for row in ("vat c 9 1", "vat a 9 1", "vat c 9 10", "vat a 9 10"):
            self.refused_on(VATS + PIPES, row, NoRow)

    def test_the_thirteenth_vat(self):
        rows = [f"vat {name} 9 1" for name in "abcdefghijkl"]
        for row in ("vat m 9 1", "vat a 9 1", "vat m 9 10"):
            self.refused_on(rows, row, NoRow)
        desk = desk_of(rows)
        self.refused(desk, "vat m 9 1", NoRow)
        self.assertEqual(desk.say("pipe a l 1 1 steady 1"), "ok")

    def test_the_twenty_fifth_pipe(self):
        rows = VATS + PIPES * 24
        for row in ("pipe a b 2 3 steady 5", "pipe a z 2 3 steady 5", "pipe a a 2 3 steady 5", "pipe a b 0 3 steady 5"):
            self.refused_on(rows, row, NoRow)
        desk = desk_of(rows)
        self.refused(desk, PIPES[0], NoRow)
        desk.say("forget")
        for row in rows:
            self.assertEqual(desk.say(row), "ok")


class NoVat(OfRefusals):
    def test_a_desk_without_vats(self):
        for row in ("want a 0", "most a 0", "soonest 0", "cheap 0", "soonest 60", "cheap 60", "pipe a b 1 1 steady 1"):
            self.refused(Desk(), row, NoName)
            self.refused(desk_of(VATS + PIPES + ["want b 3", "forget"]), row, NoName)

    def test_a_name_that_stands_for_no_vat(self):
        for row in ("want c 0", "want ab 1", "most c 3", "most aa 3", "pipe a c 5 6 steady 7", "pipe c a 5 6 steady 7",
                    "pipe c c 5 6 steady 7", "pipe c d 5 6 late 7 8", "want want 1", "most most 1", "most show 2"):
            self.refused_on(VATS, row, NoName)
            self.refused_on(VATS + PIPES, row, NoName)

    def test_a_vats_name_that_stands_for_one_already(self):
        self.refused_on(VATS, "vat a 9 1", NoName)
        self.refused_on(VATS, "vat b 20 0", NoName)

    def test_names_that_are_forgotten(self):
        desk = desk_of(VATS + PIPES + ["forget", "vat c 3 3"])
        self.refused(desk, "most a 1", NoName)
        self.refused(desk, "want b 1", NoName)
        self.assertEqual(desk.say("vat a 3 3"), "ok")
        self.assertEqual(desk.say("most a 1"), "3")

    def test_ahead_of_a_number_out_of_its_bounds(self):
        for row in ("want c 9999999999999", "most c 61", "pipe a c 0 6 steady 7", "pipe c a 21 6 steady 7",
                    "pipe a c 5 6 tidal 7 8 1", "pipe c c 5 6 steady 0", "vat a 9 10", "vat b 1000000000001 0"):
            self.refused_on(VATS, row, NoName)
        for row in ("soonest 61", "cheap 61", "soonest 9999999999999"):
            self.refused(Desk(), row, NoName)

    def test_behind_the_form(self):
        for row in ("soonest 061", "cheap", "soonest 10000000000000", "cheap a", "want a 07", "most a x", "want a",
                    "vat a 07 1", "pipe a b 1 1 steady"):
            self.refused(Desk(), row, NoRow)
        for row in ("want c 07", "most c 00", "pipe a c 05 6 steady 7", "pipe c a 5 6 steady", "vat a 9 01"):
            self.refused_on(VATS, row, NoRow)


class OutOfBounds(OfRefusals):
    def test_moments(self):
        for rows in (VATS, VATS + PIPES, VATS + PIPES + ["want b 6"]):
            for number in (61, 62, 100, 9999999999999):
                for row in (f"soonest {number}", f"cheap {number}", f"most a {number}", f"most b {number}"):
                    self.refused_on(rows, row, NoMeasure)
            desk = desk_of(rows)
            for row in ("soonest 60", "cheap 60", "most a 60", "most b 60", "soonest 0", "cheap 0", "most a 0"):
                self.assertIs(type(desk.say(row)), str)

    def test_amounts(self):
        for row in ("want a 10", "want b 21", "want a 9999999999999", "want a 20"):
            self.refused_on(VATS, row, NoMeasure)
            self.refused_on(VATS + PIPES + ["want b 6"], row, NoMeasure)
        desk = desk_of(VATS)
        for row in ("want a 9", "want b 20", "want a 0"):
            self.assertEqual(desk.say(row), "ok")
        self.refused(desk_of(["vat a 0 0"]), "want a 1", NoMeasure)
        self.assertEqual(desk_of(["vat a 0 0"]).say("want a 0"), "ok")
        great = desk_of(["vat a 1000000000000 0"])
        self.refused(great, "want a 1000000000001", NoMeasure)
        self.assertEqual(great.say("want a 1000000000000"), "ok")

    def test_vats_and_pipes(self):
        for row in ("vat c 1000000000001 0", "vat c 9 10", "vat c 0 1", "pipe a b 0 6 steady 7",
                    "pipe a b 21 6 steady 7", "pipe a b 5 1000001 steady 7", "pipe a b 5 6 steady 0",
                    "pipe a b 5 6 steady 1000000000001",
                    "pipe a b 5 6 late 0 8", "pipe a b 5 6 late 1000000000001 8", "pipe a b 5 6 late 7 61",
                    "pipe a b 5 6 tidal 0 8 9", "pipe a b 5 6 tidal 7 0 9", "pipe a b 5 6 tidal 7 8 1",
                    "pipe a b 5 6 tidal 7 8 21", "pipe a b 5 6 tidal 7 1000000000001 9", "pipe a a 5 6 steady 7",
                    "pipe b b 5 6 tidal 7 8 9"):
            self.refused_on(VATS, row, NoMeasure)
        desk = desk_of(["vat c 1000000000000 1000000000000"] + VATS)
        for row in ("pipe a b 1 0 steady 1", "pipe a b 20 1000000 late 1000000000000 60", "pipe a b 1 0 late 1 0",
                    "pipe a c 1 0 tidal 1 1000000000000 2", "pipe c b 1 0 tidal 1000000000000 1 20"):
            self.assertEqual(desk.say(row), "ok")


class NothingIsChanged(OfRefusals):
    def test_wants_stay(self):
        desk = desk_of(VATS + PIPES + ["want b 5"])
        answer = desk.say("cheap 2")
        self.assertEqual(answer, "price 15; 0 0 5")
        for row, refusal in (("want b 21", NoMeasure), ("want b 04", NoRow), ("want c 4", NoName), ("want b", NoRow),
                             ("vat c 9 9", NoRow), ("pipe a b 2 1 steady 0", NoMeasure), ("forget ", NoRow),
                             ("soonest 61", NoMeasure), ("pipe a z 1 1 steady 1", NoName), ("forget\n", NoRow)):
            self.refused(desk, row, refusal)
            self.assertEqual(desk.say("cheap 2"), answer)
            self.assertEqual(desk.say("show"), "\n".join(VATS + PIPES))

    def test_a_refused_vat_has_no_want(self):
        desk = desk_of(["vat a 9 4"])
        self.refused(desk, "vat b 9 10", NoMeasure)
        self.refused(desk, "vat a 9 1", NoName)
        for row in ("vat c 9 3", "want c 3", "want a 4"):
            self.assertEqual(desk.say(row), "ok")
        self.assertEqual(desk.say("soonest 0"), "met 0")
        self.assertEqual(desk.say("want c 4"), "ok")
        self.assertEqual(desk.say("soonest 0")[:5], "never")


class NearGoodRows(OfRefusals):
    def state_of(self, rows):
        rooms = {}
        for row in rows:
            words = row.split(" ")
            if words[0] == "vat":
                rooms[words[1]] = int(words[2])
        return rooms, sum(row.startswith("pipe") for row in rows)

    def check(self, rows, row):
        rooms, pipes = self.state_of(rows)
        asked = verdict(rooms, pipes, row)
        desk = desk_of(rows)
        try:
            desk.say(row)
            told = None
        except YardError as error:
            told = type(error)
        self.assertEqual(told, asked, (rows, row))
        if told is not None:
            self.assertEqual(desk.say("show"), "\n".join(rows))
        return told

    def test_each_row_one_sign_away(self):
        seen = set()
        for rows in ([], VATS, VATS + PIPES):
            for row in GOOD_ROWS:
                for place in range(len(row) + 1):
                    nears = [row[:place] + row[place + 1:]]
                    for sign in SIGNS:
                        nears += [row[:place] + sign + row[place:], row[:place] + sign + row[place + 1:]]
                    for near in nears:
                        seen.add(self.check(rows, near))
        self.assertEqual(seen, {None, NoRow, NoName, NoMeasure})

    def some_row(self, chance):
        name = [chance.choice("aaabbbcdefghijklmn") for again in range(3)]
        number = [chance.choice((0, 1, 3, 9, 20, 21, 60, 61, 10 ** 12, 10 ** 12 + 1)) for again in range(5)]
        gate = chance.choice([
            f"steady {number[2]}", f"late {number[2]} {number[3]}", f"tidal {number[2]} {number[3]} {number[4]}",
        ])
        return chance.choice([
            f"vat {name[0]} {number[0]} {number[1]}", f"vat {name[0]} 9 {number[1]}", f"vat {name[2]} 9 1",
            f"pipe {name[0]} {name[1]} {number[0]} {number[1]} {gate}", f"pipe {name[0]} {name[1]} 1 3 {gate}",
            f"want {name[0]} {number[0]}", f"most {name[0]} {number[0]}", f"soonest {number[0]}", f"cheap {number[0]}",
            f"soonest {name[0]}", f"show {name[0]}", "show",
        ])

    def test_rows_one_behind_another(self):
        seen = {}
        for seed in range(40):
            chance = random.Random(seed)
            desk = Desk()
            rows = []
            for again in range(60):
                row = "forget" if chance.random() < 0.01 else self.some_row(chance)
                asked = verdict(*self.state_of(rows), row)
                if asked is not None:
                    self.refused(desk, row, asked)
                else:
                    desk.say(row)
                    if row == "forget":
                        rows = []
                    if row.split(" ")[0] in ("vat", "pipe"):
                        rows.append(row)
                self.assertEqual(desk.say("show"), "\n".join(rows))
                place = (row.split(" ")[0], asked and asked.__name__)
                seen[place] = seen.get(place, 0) + 1
        for word in ("vat", "pipe", "want", "most", "soonest", "cheap"):
            for refusal in (None, "NoName", "NoMeasure"):
                self.assertIn((word, refusal), seen)


if __name__ == "__main__":
    unittest.main()
