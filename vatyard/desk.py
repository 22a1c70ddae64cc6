"""The desk: a yard and its wants, told and asked for row by row."""

from vatyard.cheap import cheap_plan
from vatyard.errors import NoMeasure, NoName
from vatyard.meeting import most_at
from vatyard.waiting import soonest
from vatyard.yards import is_name, is_number, measured, names_of, shown, vat_called, with_row

MOMENT_BOUNDS = ((0, 60),)


def is_desk_row(words):
    if words[0] in ("show", "forget"):
        return len(words) == 1
    if words[0] in ("soonest", "cheap"):
        return len(words) == 2 and is_number(words[1])
    if words[0] in ("want", "most"):
        return len(words) == 3 and is_name(words[1]) and is_number(words[2])
    return False


def moment_told(word):
    return measured([word], MOMENT_BOUNDS)[0]


def with_lettings(head, plan):
    return "; ".join([head] + [f"{moment} {pipe} {amount}" for moment, pipe, amount in plan])


class Desk:
    def __init__(self):
        self.yard = ([], [])
        self.wants = []

    def say(self, row):
        words = row.split(" ")
        if is_desk_row(words):
            return self.answer(words)
        self.yard = with_row(self.yard, row)
        # the wants of the vats so far stay; a new one's is 0
        self.wants.extend([0] * (len(self.yard[0]) - len(self.wants)))
        return "ok"

    def answer(self, words):
        if words[0] == "show":
            return shown(self.yard)
        if words[0] == "want":
            return self.want(words[1], int(words[2]))
        if words[0] == "most":
            vat = vat_called(words[1], self.yard[0])
            return str(most_at(self.yard, vat, moment_told(words[2]))[0])
        if words[0] == "forget":
            return self.forget()
        if not self.yard[0]:
            raise NoName("there is no vat")
        if words[0] == "soonest":
            return self.soonest_told(moment_told(words[1]))
        return self.cheap_told(moment_told(words[1]))

    def want(self, name, amount):
        vat = vat_called(name, self.yard[0])
        if amount > self.yard[0][vat][1]:
            raise NoMeasure(f"{name} has no room for {amount}")
        self.wants[vat] = amount
        return "ok"

    def forget(self):
        self.yard = ([], [])
        self.wants = []
        return "ok"

    def soonest_told(self, last):
        found = soonest(self.yard, self.wants, last)
        if found[0] == "never":
            names = names_of(self.yard[0])
            return " ".join(["never"] + [names[vat] for vat in found[1]])
        if found[0] == "met":
            moment = found[1]
            return with_lettings(f"met {moment}", found[2])
        return "later"

    def cheap_told(self, moment):
        found = cheap_plan(self.yard, self.wants, moment)
        if found is None:
            return "none"
        price = found[1]
        return with_lettings(f"price {price}", found[0])
