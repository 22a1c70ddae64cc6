"""The player: a yard's buckets let into pipes, moment by moment."""

from vatyard.errors import NoAmount, NoMoment, NoPipe, TooFull, TooLittle, TooWide
from vatyard.gates import gate_of


class Play:
    def __init__(self, yard):
        self.rooms = [vat[1] for vat in yard[0]]
        self.lying = [vat[2] for vat in yard[0]]
        self.pipes = list(yard[1])
        self.gates = [gate_of(pipe[4]) for pipe in yard[1]]
        self.moment = 0
        self.entered = [0] * len(self.pipes)
        self.coming = {}

    def now(self):
        return self.moment

    def holds(self):
        return list(self.lying)

    def under_way(self):
        return sorted([place + (amount,) for place, amount in self.coming.items()])

    def room_in(self, pipe):
        # a number below 0 would count from the list's end
        if not 0 <= pipe < len(self.pipes):
            raise NoPipe(f"there is no pipe {pipe}")
        return self.gates[pipe].width_at(self.moment) - self.entered[pipe]

    def full(self):
        return [vat for vat, room in enumerate(self.rooms) if self.lying[vat] > room]

    def let(self, pipe, amount):
        left = self.room_in(pipe)
        if amount < 1:
            raise NoAmount(f"{amount} can't be let into a pipe")
        if amount > left:
            raise TooWide(f"the pipe {pipe} lets in only {left} more")
        start = self.pipes[pipe][0]
        if amount > self.lying[start]:
            raise TooLittle(f"the start of pipe {pipe} doesn't hold {amount}")
        self.entered[pipe] += amount
        self.lying[start] -= amount
        place = (self.moment + self.pipes[pipe][2], pipe)
        self.coming[place] = self.coming.get(place, 0) + amount
        return self.lying[start]

    def go_on(self):
        refuse_full(self)
        self.moment += 1
        self.entered = [0] * len(self.pipes)
        for number, pipe in enumerate(self.pipes):
            self.lying[pipe[1]] += self.coming.pop((self.moment, number), 0)
        return self.moment


def refuse_full(play):
    vats = play.full()
    if vats:
        raise TooFull(f"the vats {vats} hold more than their room")


def by_moments(plan, until):
    told = [[] for moment in range(until)]
    for letting in plan:
        moment = letting[0]
        if not 0 <= moment < until:
            raise NoMoment(f"no letting at {moment} is played until {until}")
        told[moment].append(letting)
    return told


def played(yard, plan, until):
    play = Play(yard)
    told = []
    for lettings in by_moments(plan, until):
        for letting in lettings:
            play.let(letting[1], letting[2])
        told.append(play.holds())
        play.go_on()
    refuse_full(play)
    told.append(play.holds())
    return told


def price_of(yard, plan):
    return sum([amount * yard[1][pipe][3] for moment, pipe, amount in plan])
