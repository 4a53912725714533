"""Views as lines of text."""

from pinwall.errors import NoView

LETTERS = "abcdefghijklmnopqrstuvwxyz"


def shown(view):
    lines = [" ".join(written(view[0]))]
    for note in view[1]:
        lines.append(" ".join([note[0]] + written(note[1])))
    return lines


def written(numbers):
    return [figures(number) for number in numbers]


def figures(number):
    if number is None:
        return "-"
    return str(number)


def read(lines):
    if len(lines) == 0:
        raise NoView("the line of the hooks is missing")
    known = known_figures(len(lines) - 1)
    hooks = []
    # An empty line tells of no hook; cut at blanks, it would still be one
    # empty part.
    if lines[0] != "":
        hooks = numbers_in(lines[0].split(" "), known)
    notes = []
    for line in lines[1:]:
        parts = line.split(" ")
        notes.append((word_in(parts[0]), numbers_in(parts[1:], known)))
    return (hooks, notes)


# All that may stand where a number is asked for. Looking a text up among
# these lets no sign, no nought ahead and no other script's figures pass, and
# a text of very many figures is never turned into a number.
def known_figures(count):
    known = {"-": None}
    for number in range(count):
        known[figures(number)] = number
    return known


def numbers_in(parts, known):
    numbers = []
    for part in parts:
        if part not in known:
            raise NoView("there is no such number")
        numbers.append(known[part])
    return numbers


# Two blanks together, or one at an end of the line, leave an empty part.
def word_in(part):
    if part == "" or not all([sign in LETTERS for sign in part]):
        raise NoView("that is no word")
    return part
