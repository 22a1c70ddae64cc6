"""Points 6 and 7: every text that is one sign, or one row, away from some yards' texts.

What is asked is reckoned here a second time, by patterns, from the document.
"""

import re
import unittest

from vatyard.errors import NoMeasure, NoName, NoRow, YardError
from vatyard.yards import read, shown

# All that texts are made of: from the blank to ~ but the percent sign, and line feeds.
SIGNS = ["\n"] + [chr(code) for code in range(32, 127) if chr(code) != "%"]
NAME = "([a-z]{1,8})"
NUMBER = "(0|[1-9][0-9]{0,12})"
VAT = f"vat {NAME} {NUMBER} {NUMBER}"
PIPE = f"pipe {NAME} {NAME} {NUMBER} {NUMBER} (?:(steady) {NUMBER}|(late) {NUMBER} {NUMBER}" \
       f"|(tidal) {NUMBER} {NUMBER} {NUMBER})"
WIDE = range(1, 10 ** 12 + 1)
GATES = {"steady": (WIDE,), "late": (WIDE, range(0, 61)), "tidal": (WIDE, WIDE, range(2, 21))}
TEXTS = (
    "vat a 60 9\nvat bcdefghi 1000000000000 0\npipe a bcdefghi 20 1000000 steady 1",
    "vat a 1 1\nvat z 0 0\npipe z a 2 0 late 1000000000000 60\npipe a z 1 19 tidal 1 10 2",
    "vat vat 9 9\nvat pipe 10 0\npipe pipe vat 9 9 tidal 100 9 20",
)


def verdict(text):
    """The yard, or the class by which the text is refused."""
    vats = []
    pipes = []
    for row in text.split("\n"):
        vat = re.fullmatch(VAT, row)
        pipe = re.fullmatch(PIPE, row)
        words = row.split(" ")
        names = [known[0] for known in vats]
        if vat and not pipes and len(vats) < 12:
            if words[1] in names:
                return NoName
            if int(words[2]) > 10 ** 12 or int(words[3]) > int(words[2]):
                return NoMeasure
            vats.append((words[1], int(words[2]), int(words[3])))
        elif pipe and len(pipes) < 24:
            if words[1] not in names or words[2] not in names:
                return NoName
            numbers = [int(word) for word in words[3:5] + words[6:]]
            bounds = (range(1, 21), range(0, 1000001)) + GATES[words[5]]
            if words[1] == words[2] or any(n not in bound for n, bound in zip(numbers, bounds, strict=True)):
                return NoMeasure
            gate = (words[5], *numbers[2:])
            pipes.append((names.index(words[1]), names.index(words[2]), numbers[0], numbers[1], gate))
        else:
            return NoRow
    return (vats, pipes)


def answer(text):
    try:
        return read(text)
    except YardError as error:
        return type(error)


def edits(text):
    for place in range(len(text) + 1):
        yield text[:place] + text[place + 1:]
        for sign in SIGNS:
            yield text[:place] + sign + text[place:]
            yield text[:place] + sign + text[place + 1:]


def row_edits(text):
    rows = text.split("\n")
    for place in range(len(rows)):
        yield "\n".join(rows[:place] + rows[place + 1:])
        for other in rows:
            yield "\n".join(rows[:place] + [other] + rows[place:])
            yield "\n".join(rows[:place] + [other] + rows[place + 1:])


class Edits(unittest.TestCase):
    def test_each_text_near_a_yard(self):
        met = set()
        for text in TEXTS:
            for near in [text] + list(edits(text)) + list(row_edits(text)):
                asked = verdict(near)
                self.assertEqual(answer(near), asked, near)
                if isinstance(asked, tuple):
                    self.assertEqual(shown(asked), near)
                met.add(asked if isinstance(asked, type) else "yard")
        self.assertEqual(met, {NoRow, NoName, NoMeasure, "yard"})


if __name__ == "__main__":
    unittest.main()
