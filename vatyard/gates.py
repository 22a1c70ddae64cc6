"""Gates: how many buckets a pipe lets in at each moment."""


class Gate:
    def width_at(self, moment):
        return 0


class Steady(Gate):
    def __init__(self, wide):
        self.wide = wide

    def width_at(self, moment):
        return self.wide


class Late(Gate):
    def __init__(self, wide, since):
        self.wide = wide
        self.since = since

    def width_at(self, moment):
        return self.wide if moment >= self.since else 0


class Tidal(Gate):
    def __init__(self, wide, other, turn):
        self.wide = wide
        self.other = other
        self.turn = turn

    def width_at(self, moment):
        return self.wide if moment % self.turn == 0 else self.other


def gate_of(gate):
    if gate[0] == "steady":
        return Steady(gate[1])
    if gate[0] == "late":
        return Late(gate[1], gate[2])
    return Tidal(gate[1], gate[2], gate[3])


def width(gate, moment):
    return gate_of(gate).width_at(moment)
