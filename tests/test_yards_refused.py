"""Points 2 and 7: texts that tell no yard."""

import unittest

from vatyard import errors
from vatyard.errors import NoMeasure, NoName, NoRow, YardError
from vatyard.yards import read

OTHERS = ("NoRow", "NoName", "NoMeasure", "NoPipe", "NoAmount", "NoMoment", "TooWide", "TooLittle", "TooFull")
VATS = "vat a 9 1\nvat b 9 1"
# Rows that may stand behind VATS, one of each form.
GOOD_ROWS = ("vat c 9 1", "pipe a b 5 6 steady 7", "pipe a b 5 6 late 7 8", "pipe a b 5 6 tidal 7 8 9")
# The places of the words that are numbers, and of those that are names, in the rows above.
NUMBERS = ((2, 3), (3, 4, 6), (3, 4, 6, 7), (3, 4, 6, 7, 8))
NAMES = ((1,), (1, 2), (1, 2), (1, 2))
BAD_NUMBERS = (
    "", "-1", "+1", "00", "01", "007", "10000000000000", "00000000000001", "99999999999999", "1x", "x", "x1", "1.0",
    "1_0", "1e3", "0x1", "1,0", "O", "~", "-", "-0",
)
BAD_NAMES = (
    "", "abcdefghi", "aaaaaaaaaaaaaaaa", "A", "aB", "a1", "1", "a-b", "a_b", "a.", "{a", "`", "~", "a!", "-", "0",
)


def with_word(row, place, word):
    words = row.split(" ")
    words[place] = word
    return " ".join(words)


def vats_of(count):
    return "\n".join([f"vat {name} 9 1" for name in "abcdefghijklm"[:count]])


def pipes_of(count):
    return "\n".join(["pipe a b 1 0 steady 1"] * count)


class Refused(unittest.TestCase):
    def assert_refused(self, text, refusal):
        with self.subTest(text=text):
            with self.assertRaises(refusal) as caught:
                read(text)
            error = caught.exception
            self.assertIsInstance(error, YardError)
            self.assertIsInstance(error, ValueError)
            bears = [name for name in OTHERS if isinstance(error, getattr(errors, name))]
            self.assertEqual(bears, [refusal.__name__])

    def assert_row_refused(self, row, refusal):
        self.assert_refused(VATS + "\n" + row, refusal)
        # the first faulty row tells, whatever fault a later one has
        for later in ("", "vat a 1 1", "pipe a z 1 1 steady 1", "pipe a a 1 1 steady 1", "vat c 1 1", "pipe"):
            self.assert_refused(VATS + "\n" + row + "\n" + later, refusal)


class NoForm(Refused):
    def test_the_good_rows_are_good(self):
        for row in GOOD_ROWS:
            self.assertEqual(len(read(VATS + "\n" + row)), 2)

    def test_a_word_lacking(self):
        for row in GOOD_ROWS:
            words = row.split(" ")
            for place in range(len(words)):
                self.assert_row_refused(" ".join(words[:place] + words[place + 1:]), NoRow)

    def test_a_word_too_many(self):
        for row in GOOD_ROWS:
            words = row.split(" ")
            for place in range(len(words) + 1):
                for extra in ("1", "a", "vat", "pipe", "steady", words[place - 1]):
                    self.assert_row_refused(" ".join(words[:place] + [extra] + words[place:]), NoRow)

    def test_blanks_ahead_behind_and_doubled(self):
        for row in GOOD_ROWS:
            self.assert_row_refused(" " + row, NoRow)
            self.assert_row_refused(row + " ", NoRow)
            for place in range(len(row)):
                if row[place] == " ":
                    self.assert_row_refused(row[:place] + " " + row[place:], NoRow)

    def test_rows_without_signs(self):
        self.assert_refused("", NoRow)
        self.assert_refused("\n", NoRow)
        self.assert_refused("\n" + VATS, NoRow)
        self.assert_refused(VATS + "\n", NoRow)
        self.assert_refused(VATS + "\n" + pipes_of(1) + "\n", NoRow)
        self.assert_refused("vat a 9 1\n\nvat b 9 1", NoRow)
        self.assert_refused(VATS + "\n\n" + pipes_of(1), NoRow)

    def test_rows_of_blanks(self):
        for row in (" ", "  ", "   ", "      "):
            self.assert_refused(row, NoRow)
            self.assert_row_refused(row, NoRow)

    def test_words_parted_otherwise(self):
        self.assert_refused("vat\ta 9 1", NoRow)
        self.assert_refused("vat a 9,1", NoRow)
        self.assert_refused("vat a 9 1 vat b 9 1", NoRow)

    def test_another_first_word(self):
        for row in GOOD_ROWS:
            for word in ("Vat", "VAT", "vats", "va", "pip", "pipes", "Pipe", "tub", "want", "show", "steady", "1", "-"):
                self.assert_row_refused(with_word(row, 0, word), NoRow)
        self.assert_row_refused("pipe c 9 1", NoRow)
        self.assert_row_refused("vat a b 5 6 steady 7", NoRow)

    def test_another_word_of_a_gate(self):
        for row in GOOD_ROWS[1:]:
            for word in ("Steady", "steadyy", "stead", "Late", "lat", "tide", "open", "vat", "pipe", "a", "1", "-"):
                self.assert_row_refused(with_word(row, 5, word), NoRow)

    def test_the_word_of_a_gate_with_other_numbers(self):
        words = ("steady", "late", "tidal")
        for row in GOOD_ROWS[1:]:
            for word in words:
                if word != row.split(" ")[5]:
                    self.assert_row_refused(with_word(row, 5, word), NoRow)

    def test_names_not_written_as_told(self):
        for row, places in zip(GOOD_ROWS, NAMES):
            for place in places:
                for name in BAD_NAMES:
                    self.assert_row_refused(with_word(row, place, name), NoRow)

    def test_numbers_not_written_as_told(self):
        for row, places in zip(GOOD_ROWS, NUMBERS):
            for place in places:
                for number in BAD_NUMBERS:
                    self.assert_row_refused(with_word(row, place, number), NoRow)

    def test_every_sign_that_is_no_small_letter_or_no_figure(self):
        # texts have all signs from the blank to ~ but the percent sign
        for sign in [chr(code) for code in range(32, 127) if chr(code) != "%"]:
            if not "a" <= sign <= "z":
                self.assert_row_refused(f"vat c{sign} 9 1", NoRow)
                self.assert_row_refused(f"pipe a b{sign} 1 0 steady 1", NoRow)
            if not "0" <= sign <= "9":
                self.assert_row_refused(f"vat c 9{sign} 1", NoRow)
                self.assert_row_refused(f"pipe a b 1 0 steady {sign}1", NoRow)

    def test_a_vat_behind_a_pipe(self):
        self.assert_refused(VATS + "\npipe a b 1 0 steady 1\nvat c 9 1", NoRow)
        self.assert_refused(VATS + "\n" + pipes_of(24) + "\nvat c 9 1", NoRow)

    def test_the_thirteenth_vat(self):
        self.assertEqual(len(read(vats_of(12))[0]), 12)
        self.assert_refused(vats_of(13), NoRow)
        self.assert_refused(vats_of(12) + "\n" + pipes_of(1) + "\nvat m 9 1", NoRow)

    def test_the_twenty_fifth_pipe(self):
        self.assertEqual(len(read(VATS + "\n" + pipes_of(24))[1]), 24)
        self.assert_refused(VATS + "\n" + pipes_of(25), NoRow)


class NoSuchName(Refused):
    def test_a_name_that_stands_for_a_vat_already(self):
        self.assert_row_refused("vat a 9 1", NoName)
        self.assert_row_refused("vat b 2 0", NoName)
        self.assert_refused(vats_of(11) + "\nvat a 9 1", NoName)
        self.assert_refused("vat vat 1 1\nvat vat 1 1", NoName)

    def test_a_name_that_stands_for_none(self):
        for row in GOOD_ROWS[1:]:
            for place in (1, 2):
                for name in ("c", "ab", "aa", "vat", "pipe", "steady", "zzzzzzzz"):
                    self.assert_row_refused(with_word(row, place, name), NoName)

    def test_pipes_without_any_vat(self):
        for row in GOOD_ROWS[1:]:
            self.assert_refused(row, NoName)

    def test_a_pipe_ahead_of_a_vat_that_it_names(self):
        self.assert_refused("vat a 9 1\npipe a b 1 0 steady 1\nvat b 9 1", NoName)
        self.assert_refused("vat b 9 1\npipe a b 1 0 steady 1\nvat a 9 1", NoName)
        self.assert_refused("pipe a b 1 0 steady 1\n" + VATS, NoName)

    def test_the_twenty_fourth_pipe(self):
        self.assert_refused(VATS + "\n" + pipes_of(23) + "\npipe a c 1 0 steady 1", NoName)


class NoSuchMeasure(Refused):
    def assert_bounds(self, row, place, least, most):
        for number in (least, most):
            self.assertEqual(len(read(VATS + "\n" + with_word(row, place, str(number)))), 2)
        for number in (most + 1, 9999999999999):
            self.assert_row_refused(with_word(row, place, str(number)), NoMeasure)
        if least > 0:
            self.assert_row_refused(with_word(row, place, str(least - 1)), NoMeasure)
            self.assert_row_refused(with_word(row, place, "0"), NoMeasure)
        else:
            # one below is written with a sign, which no number has
            self.assert_row_refused(with_word(row, place, "-1"), NoRow)

    def test_room(self):
        self.assert_bounds("vat c 5 0", 2, 0, 10 ** 12)

    def test_fill(self):
        self.assert_bounds("vat c 5 0", 3, 0, 5)
        self.assert_bounds("vat c 0 0", 3, 0, 0)
        self.assert_bounds("vat c 1000000000000 0", 3, 0, 10 ** 12)

    def test_length_and_price(self):
        for row in GOOD_ROWS[1:]:
            self.assert_bounds(row, 3, 1, 20)
            self.assert_bounds(row, 4, 0, 1000000)

    def test_widths(self):
        for row in GOOD_ROWS[1:]:
            self.assert_bounds(row, 6, 1, 10 ** 12)
        self.assert_bounds(GOOD_ROWS[3], 7, 1, 10 ** 12)

    def test_from(self):
        self.assert_bounds(GOOD_ROWS[2], 7, 0, 60)

    def test_turn(self):
        self.assert_bounds(GOOD_ROWS[3], 8, 2, 20)

    def test_both_room_and_fill_too_great(self):
        self.assert_row_refused("vat c 1000000000001 1000000000001", NoMeasure)

    def test_a_pipe_from_a_vat_to_itself(self):
        for row in GOOD_ROWS[1:]:
            self.assert_row_refused(with_word(row, 2, "a"), NoMeasure)
            self.assert_row_refused(with_word(row, 1, "b"), NoMeasure)


class TheFirst(Refused):
    def test_a_row_with_a_fault_of_form_and_another_one(self):
        for row in (
            "vat a 9", "vat a 09 1", "vat a 1 9 9", "vat c 1 9 ", "vat a 1 02", "vat A 1 2",
            "pipe a z 1 0 steady", "pipe a z 0 0 steady 01", "pipe z a 1 0 tide 1", "pipe a a 1 0 steady 1 1",
            "pipe a b 0 0 late 1", "pipe a b 99 0 tidal 1 1 x", "pipe a Z 1 0 steady 0", "pipe z z 1 0 late 0 -1",
        ):
            self.assert_row_refused(row, NoRow)

    def test_a_row_out_of_its_place_with_another_fault(self):
        self.assert_refused(VATS + "\n" + pipes_of(1) + "\nvat a 9 1", NoRow)
        self.assert_refused(VATS + "\n" + pipes_of(1) + "\nvat c 1 2", NoRow)
        self.assert_refused(vats_of(12) + "\nvat a 9 1", NoRow)
        self.assert_refused(vats_of(12) + "\nvat m 1 2", NoRow)
        self.assert_refused(VATS + "\n" + pipes_of(24) + "\npipe a c 1 0 steady 1", NoRow)
        self.assert_refused(VATS + "\n" + pipes_of(24) + "\npipe a a 1 0 steady 1", NoRow)
        self.assert_refused(VATS + "\n" + pipes_of(24) + "\npipe a b 1 0 steady 0", NoRow)

    def test_a_row_with_a_fault_of_name_and_of_measure(self):
        for row in (
            "vat a 1 2", "vat b 1000000000001 0", "pipe z z 1 0 steady 1", "pipe a z 0 0 steady 1",
            "pipe z b 21 0 late 1 1", "pipe z b 1 1000001 steady 1", "pipe a z 1 0 steady 0",
            "pipe a z 1 0 late 1 61", "pipe z b 1 0 tidal 1 1 1", "pipe a z 1 0 tidal 1 0 5",
        ):
            self.assert_row_refused(row, NoName)

    def test_of_two_faulty_rows_the_first_one(self):
        rows = (("vat c", NoRow), ("vat a 9 1", NoName), ("vat c 1 2", NoMeasure))
        for first, refusal in rows:
            for second, other in rows:
                self.assert_refused("vat a 9 1\n" + first + "\n" + second, refusal)
                self.assert_refused("vat a 9 1\n" + first + "\nvat d 9 1\n" + second, refusal)

    def test_a_refused_text_changes_no_later_answer(self):
        for row, refusal in (("vat c 1 2", NoMeasure), ("vat a 9 1", NoName), ("vat", NoRow)):
            self.assert_refused(VATS + "\n" + row, refusal)
            self.assertEqual(read(VATS), ([("a", 9, 1), ("b", 9, 1)], []))


if __name__ == "__main__":
    unittest.main()
