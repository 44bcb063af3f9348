"""Notes: a change written as a line, and a line read to its change."""

from crosstable.errors import NoLine

HOW_MANY_PARTS = {"add": 5, "swap": 4, "turn": 3}
SIDES = ("row", "column")


def shown(change):
    return " ".join([part if isinstance(part, str) else written(part) for part in change])


def read(line):
    parts = line.split(" ")
    if HOW_MANY_PARTS.get(parts[0]) != len(parts) or parts[1] not in SIDES:
        raise NoLine("the line names no change")
    numbers = [number_of(part) for part in parts[2:]]
    refuse_bad_places(numbers[:2])
    return tuple(parts[:2] + numbers)


def refuse_bad_places(places):
    if min(places) < 0:
        raise NoLine("the line names a place below nought")
    if len(places) == 2 and places[0] == places[1]:
        raise NoLine("the line names one place twice")


# Python's own str and int refuse some thousands of figures, and the numbers of changes may
# have more: so they are written and read in pieces of 64 figures.
def written(number):
    scale = 10 ** 64
    rest = abs(number)
    pieces = []
    while rest >= scale:
        pieces.append(str(rest % scale).zfill(64))
        rest = rest // scale
    pieces.append(str(rest))
    pieces.append("-" if number < 0 else "")
    return "".join(reversed(pieces))


def number_of(text):
    figures = text[1:] if text.startswith("-") else text
    if not are_figures(figures):
        raise NoLine("a part of the line is no whole number")
    if figures[0] == "0" and text != "0":
        raise NoLine("a number of the line has a nought or a sign ahead that is not written")
    size = size_of(figures)
    return -size if text.startswith("-") else size


def are_figures(text):
    return text != "" and all([sign in "0123456789" for sign in text])


def size_of(figures):
    scale = 10 ** 64
    size = 0
    whole_pieces = figures.zfill(len(figures) + -len(figures) % 64)
    for start in range(0, len(whole_pieces), 64):
        size = size * scale + int(whole_pieces[start:start + 64])
    return size
