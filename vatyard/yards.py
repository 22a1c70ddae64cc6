"""Yards: read from a text, and shown as one."""

from vatyard.errors import NoMeasure, NoName, NoRow

LETTERS = "abcdefghijklmnopqrstuvwxyz"
FIGURES = "0123456789"
MOST_LETTERS = 8
MOST_FIGURES = 13
MOST_VATS = 12
MOST_PIPES = 24
MOST_ROOM = 1000000000000

# The least and the greatest of each number, in the order in which a row has them.
PIPE_BOUNDS = ((1, 20), (0, 1000000))
GATE_BOUNDS = {
    "steady": ((1, 1000000000000),),
    "late": ((1, 1000000000000), (0, 60)),
    "tidal": ((1, 1000000000000), (1, 1000000000000), (2, 20)),
}


def made_of(word, signs):
    return all([sign in signs for sign in word])


def is_name(word):
    return 1 <= len(word) <= MOST_LETTERS and made_of(word, LETTERS)


def is_number(word):
    if not 1 <= len(word) <= MOST_FIGURES or not made_of(word, FIGURES):
        return False
    return word == "0" or word[0] != "0"


def are_numbers(words):
    return all([is_number(word) for word in words])


def is_vat_row(words):
    if len(words) != 4 or words[0] != "vat":
        return False
    return is_name(words[1]) and are_numbers(words[2:])


def is_pipe_row(words):
    if len(words) < 6 or words[0] != "pipe" or words[5] not in GATE_BOUNDS:
        return False
    if len(words) != 6 + len(GATE_BOUNDS[words[5]]):
        return False
    return is_name(words[1]) and is_name(words[2]) and are_numbers(words[3:5] + words[6:])


def names_of(vats):
    return [vat[0] for vat in vats]


def vat_told(words, vats):
    name = words[1]
    if name in names_of(vats):
        raise NoName(f"a vat is called {name} already")
    room = int(words[2])
    fill = int(words[3])
    if room > MOST_ROOM or fill > room:
        raise NoMeasure(f"no vat has the room {room} and the fill {fill}")
    return (name, room, fill)


def measured(words, bounds):
    numbers = [int(word) for word in words]
    for number, bound in zip(numbers, bounds):
        if number < bound[0] or number > bound[1]:
            raise NoMeasure(f"{number} is out of its bounds")
    return tuple(numbers)


def vat_called(name, vats):
    names = names_of(vats)
    if name not in names:
        raise NoName(f"no vat is called {name}")
    return names.index(name)


def pipe_told(words, vats):
    start = vat_called(words[1], vats)
    goal = vat_called(words[2], vats)
    if start == goal:
        raise NoMeasure("a pipe leads from a vat to itself")
    gate = (words[5],) + measured(words[6:], GATE_BOUNDS[words[5]])
    return (start, goal) + measured(words[3:5], PIPE_BOUNDS) + (gate,)


def with_row(yard, row):
    vats = yard[0]
    pipes = yard[1]
    words = row.split(" ")
    if is_vat_row(words) and not pipes and len(vats) < MOST_VATS:
        return (vats + [vat_told(words, vats)], list(pipes))
    if is_pipe_row(words) and len(pipes) < MOST_PIPES:
        return (list(vats), pipes + [pipe_told(words, vats)])
    raise NoRow(f"no row of a yard can stand here as {row!r}")


def read(text):
    yard = ([], [])
    for row in text.split("\n"):
        yard = with_row(yard, row)
    return yard


def pipe_row(pipe, names):
    words = ["pipe", names[pipe[0]], names[pipe[1]], pipe[2], pipe[3]] + list(pipe[4])
    return " ".join([str(word) for word in words])


def shown(yard):
    names = names_of(yard[0])
    rows = [f"vat {name} {room} {fill}" for name, room, fill in yard[0]]
    return "\n".join(rows + [pipe_row(pipe, names) for pipe in yard[1]])
