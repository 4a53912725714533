"""Views: what is seen from the hooks, whatever pegs the notes hang on."""

from pinwall.errors import Full
from pinwall.pegs import real
from pinwall.wall import Wall


def seen(pegs, hooks):
    # The notes met so far: their pegs in order, and the number of each peg.
    met = []
    numbers = {}
    leads = met_by(pegs, hooks, met, numbers)
    notes = []
    # Reading the threads of one note may meet more notes, which then wait
    # for their turn behind all that were met before them.
    while len(notes) < len(met):
        note = pegs[met[len(notes)]]
        notes.append((note[1], met_by(pegs, note[2], met, numbers)))
    return (leads, notes)


def met_by(pegs, threads, met, numbers):
    leads = []
    for thread in threads:
        leads.append(number_of(pegs, thread, met, numbers))
    return leads


def number_of(pegs, thread, met, numbers):
    if thread is None:
        return None
    # During a round some threads still lead to a mark and others to the
    # note's own peg already: it is one note all the same.
    peg = real(pegs, thread)
    if peg not in numbers:
        numbers[peg] = len(met)
        met.append(peg)
    return numbers[peg]


def built(size, view):
    if len(view[1]) > size:
        raise Full("the view has more notes than a half has pegs")
    wall = Wall(size, len(view[0]))
    # The near half of a new wall begins at peg nought, so that the notes,
    # hung in their order, have the view's numbers as those of their pegs.
    for note in view[1]:
        wall.hang(("note", note[0], tuple(note[1])))
    for hook in range(len(view[0])):
        wall.hooks[hook] = view[0][hook]
    return wall
