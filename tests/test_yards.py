"""Points 2, 4 and 6: yards shown as texts, and texts read to yards."""

import copy
import unittest

from vatyard.yards import read, shown

MOST = 10 ** 12
SMALL = ([("a", 5, 3)], [])
SMALL_TEXT = "vat a 5 3"
PLAIN = (
    [("north", 10, 4), ("south", 7, 0), ("mill", 0, 0)],
    [
        (0, 1, 2, 30, ("steady", 6)),
        (1, 2, 1, 0, ("late", 3, 12)),
        (2, 0, 20, 7, ("tidal", 8, 9, 4)),
        (0, 1, 2, 30, ("steady", 6)),
    ],
)
PLAIN_TEXT = (
    "vat north 10 4\n"
    "vat south 7 0\n"
    "vat mill 0 0\n"
    "pipe north south 2 30 steady 6\n"
    "pipe south mill 1 0 late 3 12\n"
    "pipe mill north 20 7 tidal 8 9 4\n"
    "pipe north south 2 30 steady 6"
)
LEAST = (
    [("a", 0, 0), ("b", 1, 1)],
    [
        (0, 1, 1, 0, ("steady", 1)),
        (1, 0, 1, 0, ("late", 1, 0)),
        (0, 1, 1, 0, ("tidal", 1, 1, 2)),
    ],
)
LEAST_TEXT = (
    "vat a 0 0\nvat b 1 1\n"
    "pipe a b 1 0 steady 1\npipe b a 1 0 late 1 0\npipe a b 1 0 tidal 1 1 2"
)
GREATEST = (
    [("zzzzzzzz", MOST, MOST), ("zzzzzzzy", MOST, 0)],
    [
        (1, 0, 20, 1000000, ("steady", MOST)),
        (0, 1, 20, 1000000, ("late", MOST, 60)),
        (1, 0, 20, 1000000, ("tidal", MOST, MOST, 20)),
    ],
)
GREATEST_TEXT = (
    "vat zzzzzzzz 1000000000000 1000000000000\n"
    "vat zzzzzzzy 1000000000000 0\n"
    "pipe zzzzzzzy zzzzzzzz 20 1000000 steady 1000000000000\n"
    "pipe zzzzzzzz zzzzzzzy 20 1000000 late 1000000000000 60\n"
    "pipe zzzzzzzy zzzzzzzz 20 1000000 tidal 1000000000000 1000000000000 20"
)
WORDS = ("vat", "pipe", "steady", "late", "tidal")
WORDS_YARD = (
    [(word, 9, 1) for word in WORDS],
    [
        (1, 0, 1, 1, ("steady", 1)),
        (2, 3, 2, 2, ("tidal", 2, 3, 4)),
        (4, 2, 3, 3, ("late", 5, 6)),
        (0, 1, 4, 4, ("late", 7, 8)),
    ],
)
WORDS_TEXT = (
    "vat vat 9 1\nvat pipe 9 1\nvat steady 9 1\nvat late 9 1\nvat tidal 9 1\n"
    "pipe pipe vat 1 1 steady 1\n"
    "pipe steady late 2 2 tidal 2 3 4\n"
    "pipe tidal steady 3 3 late 5 6\n"
    "pipe vat pipe 4 4 late 7 8"
)
GATES = (("steady", 5), ("late", 6, 7), ("tidal", 8, 9, 10))
NAMES = ("a", "bb", "ccc", "dddd", "eeeee", "ffffff", "ggggggg", "hhhhhhhh", "i", "vat", "az", "za")
LARGEST = (
    [(name, 100 + place, place) for place, name in enumerate(NAMES)],
    [(k % 12, (k + 1 + k // 12) % 12, 1 + k % 20, 1000 * k, GATES[k % 3]) for k in range(24)],
)
TWELVE_VATS = (LARGEST[0], [])
TOLD = (
    (SMALL, SMALL_TEXT), (PLAIN, PLAIN_TEXT), (LEAST, LEAST_TEXT), (GREATEST, GREATEST_TEXT),
    (WORDS_YARD, WORDS_TEXT),
)
YARDS = [yard for yard, text in TOLD] + [LARGEST, TWELVE_VATS]


def kinds_of(thing):
    if isinstance(thing, (list, tuple)):
        return (type(thing), [kinds_of(part) for part in thing])
    return type(thing)


class Texts(unittest.TestCase):
    def test_a_yard_is_shown_as_its_text(self):
        for yard, text in TOLD:
            with self.subTest(text=text):
                self.assertEqual(shown(yard), text)

    def test_a_text_is_read_to_its_yard(self):
        for yard, text in TOLD:
            with self.subTest(text=text):
                self.assertEqual(read(text), yard)

    def test_shown_read_and_shown_again(self):
        self.assertEqual((len(LARGEST[0]), len(LARGEST[1])), (12, 24))
        for yard in YARDS:
            text = shown(yard)
            with self.subTest(text=text):
                self.assertEqual(read(text), yard)
                self.assertEqual(shown(read(text)), text)

    def test_rows_of_the_largest_yard(self):
        rows = shown(LARGEST).split("\n")
        self.assertEqual([row.split(" ")[0] for row in rows], ["vat"] * 12 + ["pipe"] * 24)
        self.assertEqual([row.split(" ")[1] for row in rows[:12]], list(NAMES))

    def test_each_number_of_vats(self):
        for count in range(1, 13):
            yard = (LARGEST[0][:count], [])
            self.assertEqual(read(shown(yard)), yard)

    def test_each_number_of_pipes(self):
        for count in range(0, 25):
            yard = (LARGEST[0], LARGEST[1][:count])
            self.assertEqual(read(shown(yard)), yard)

    def test_each_length_from_and_turn(self):
        for length in range(1, 21):
            self.assert_pipe((0, 1, length, 5, ("steady", 3)))
        for since in range(0, 61):
            self.assert_pipe((1, 0, 4, 5, ("late", 3, since)))
        for turn in range(2, 21):
            self.assert_pipe((0, 1, 4, 5, ("tidal", 3, 2, turn)))

    def assert_pipe(self, pipe):
        yard = ([("a", 1, 0), ("b", 2, 2)], [pipe])
        self.assertEqual(read(shown(yard)), yard)

    def test_names_that_begin_alike(self):
        yard = ([("ab", 1, 0), ("a", 1, 0), ("abc", 1, 0)], [(1, 2, 1, 0, ("steady", 1)), (2, 0, 1, 0, ("steady", 1))])
        text = "vat ab 1 0\nvat a 1 0\nvat abc 1 0\npipe a abc 1 0 steady 1\npipe abc ab 1 0 steady 1"
        self.assertEqual(shown(yard), text)
        self.assertEqual(read(text), yard)

    def test_each_letter_and_each_figure(self):
        letters = "abcdefghijklmnopqrstuvwxyz"
        for letter in letters:
            self.assertEqual(read(f"vat {letter} 1 1"), ([(letter, 1, 1)], []))
        self.assertEqual(read("vat a 123456789012 987654321"), ([("a", 123456789012, 987654321)], []))
        self.assertEqual(read("vat a 10 10"), ([("a", 10, 10)], []))


class OnesOwn(unittest.TestCase):
    def test_what_is_read_is_a_tuple_of_two_lists_of_tuples(self):
        for yard, text in TOLD:
            told = read(text)
            with self.subTest(text=text):
                # the kinds of the yards above are those of the document, so whole numbers are no truths
                self.assertEqual(kinds_of(told), kinds_of(yard))
                self.assertIs(type(told), tuple)
                self.assertEqual([type(part) for part in told], [list, list])

    def test_changing_what_is_read_changes_no_later_answer(self):
        for yard, text in TOLD:
            told = read(text)
            told[0].append(("extra", 1, 1))
            told[0][0] = ("other", 2, 2)
            told[1].append((0, 1, 1, 1, ("steady", 1)))
            told[1].clear()
            self.assertEqual(read(text), yard)
            self.assertEqual(shown(yard), text)

    def test_no_two_lists_are_one(self):
        for text in (SMALL_TEXT, PLAIN_TEXT):
            first = read(text)
            second = read(text)
            lists = [first[0], first[1], second[0], second[1]]
            self.assertEqual(len({id(part) for part in lists}), 4)

    def test_what_is_handed_in_stays(self):
        for yard in YARDS:
            before = copy.deepcopy(yard)
            shown(yard)
            self.assertEqual(yard, before)
            self.assertEqual(kinds_of(yard), kinds_of(before))

    def test_a_yard_changed_by_its_owner_is_shown_as_it_is_now(self):
        yard = ([("a", 5, 3)], [])
        self.assertEqual(shown(yard), "vat a 5 3")
        yard[0].append(("b", 1, 0))
        yard[1].append((1, 0, 2, 3, ("late", 4, 5)))
        self.assertEqual(shown(yard), "vat a 5 3\nvat b 1 0\npipe b a 2 3 late 4 5")

    def test_asked_again_the_same_is_told(self):
        for yard in YARDS:
            self.assertEqual(shown(yard), shown(yard))
            self.assertEqual(read(shown(yard)), read(shown(yard)))


if __name__ == "__main__":
    unittest.main()
