"""What several tests of the wall need."""

import copy
import unittest

from pinwall.errors import Busy, Full, NoNote, NoRound, NoThread, WallError
from pinwall.seeing import seen
from pinwall.wall import Wall

FIELDS = ("pegs", "hooks", "low", "free", "moving", "looked")
METHODS = {"put": "put", "tie": "tie", "follow": "follow", "drop": "drop", "word": "word_of",
           "begin": "begin", "step": "step", "tidy": "tidy"}
KINDS = ("put",) * 6 + ("tie",) * 3 + ("follow",) * 5 + ("step",) * 5 + (
    "drop", "word", "begin", "begin", "tidy")


def note(word, *threads):
    return ("note", word, threads)


def mark(number):
    return ("moved", number)


def is_note(peg):
    return peg is not None and peg[0] == "note"


def state(wall):
    return copy.deepcopy(vars(wall))


def size_of(wall):
    return len(wall.pegs) // 2


def near_pegs(wall):
    return wall.pegs[wall.low:wall.low + size_of(wall)]


def far_pegs(wall):
    start = size_of(wall) - wall.low
    return wall.pegs[start:start + size_of(wall)]


def three_notes():
    """Hook 0 leads to c, hook 1 to b; c leads to b and a, b leads to a."""
    wall = Wall(4, 2)
    wall.put(0, "a", ())
    wall.put(1, "b", (0,))
    wall.put(0, "c", (1, 0))
    return wall


def row(words, size, count=2):
    """Hook 0 leads to the last word, each word to the one ahead of it."""
    wall = Wall(size, count)
    for word in words:
        wall.put(0, word, (0,))
    return wall


def some_deed(chance, count, serial, kinds=KINDS):
    kind = chance.choice(kinds)
    hook = chance.randrange(count)
    other = chance.randrange(count)
    k = chance.choice((0, 0, 0, 1, 1, 2, 3, 40))
    if kind == "put":
        # The hook itself is often among the others, for else most notes
        # would soon be out of reach.
        others = tuple(chance.choice((hook, chance.randrange(count))) for again in range(chance.randrange(5)))
        return (kind, hook, f"w{serial}", others)
    if kind in ("tie", "follow"):
        return (kind, hook, k, other)
    if kind in ("drop", "word"):
        return (kind, hook)
    return (kind,)


def outcome(thing, deed):
    """What a deed's own method refuses it with, and what it gives back."""
    try:
        return (None, getattr(thing, METHODS[deed[0]])(*deed[1:]))
    except WallError as error:
        return (type(error), None)


def answer_told(got):
    """The answer of point 14 to an outcome."""
    if got[0] is not None:
        return None
    return True if got[1] is None else got[1]


class Sheet:
    """A note that hangs on no peg: the same thing from first to last."""

    def __init__(self, word, threads):
        self.word = word
        self.threads = threads


class Sheets:
    """A wall's notes kept by themselves. Threads are the sheets they lead to,
    so that no thread is ever changed by a round; of the halves is kept only
    which sheets belong to which."""

    def __init__(self, size, count):
        self.size = size
        self.hooks = [None] * count
        self.near = []
        self.far = []
        self.moving = False
        self.looked = 0

    def sheet(self, hook):
        if self.hooks[hook] is None:
            raise NoNote
        return self.hooks[hook]

    def sheet_with(self, hook, k):
        sheet = self.sheet(hook)
        if k not in range(len(sheet.threads)):
            raise NoThread
        return sheet

    def put(self, hook, word, others):
        if len(self.near) + len(self.far) >= self.size:
            raise Full
        sheet = Sheet(word, [self.hooks[other] for other in others])
        self.near.append(sheet)
        self.hooks[hook] = sheet

    def tie(self, hook, k, other):
        self.sheet_with(hook, k).threads[k] = self.hooks[other]

    def follow(self, hook, k, other):
        self.hooks[other] = self.sheet_with(hook, k).threads[k]
        self.move([self.hooks[other]])
        return self.hooks[other] is not None

    def drop(self, hook):
        self.hooks[hook] = None

    def word_of(self, hook):
        return self.sheet(hook).word

    def move(self, sheets):
        for sheet in sheets:
            if sheet in self.far:
                self.far.remove(sheet)
                self.near.append(sheet)

    def begin(self):
        if self.moving:
            raise Busy
        self.moving = True
        self.looked = 0
        self.near, self.far = [], self.near
        self.move(self.hooks)

    def step(self):
        if not self.moving:
            raise NoRound
        if self.looked < len(self.near):
            self.move(self.near[self.looked].threads)
            self.looked += 1
            return False
        self.far = []
        self.moving = False
        return True

    def tidy(self):
        if not self.moving:
            self.begin()
        while not self.step():
            pass
        return len(self.near)

    def met(self):
        order = []
        rows = [self.hooks]
        while rows:
            for sheet in rows.pop(0):
                if sheet is not None and sheet not in order:
                    order.append(sheet)
                    rows.append(sheet.threads)
        return order

    def view(self):
        order = self.met()

        def numbers(sheets):
            return [None if sheet is None else order.index(sheet) for sheet in sheets]

        return (numbers(self.hooks), [(sheet.word, numbers(sheet.threads)) for sheet in order])


class WallCase(unittest.TestCase):
    def refused(self, error, wall, deed, *told):
        """The deed is refused with just this error and changes nothing."""
        before = state(wall)
        with self.assertRaises(error) as caught:
            getattr(wall, deed)(*told)
        self.assertIs(type(caught.exception), error)
        self.assertEqual(state(wall), before)

    def like(self, wall, sheets):
        """The wall is sound and hangs as the sheets tell."""
        self.sound(wall)
        self.assertIs(wall.moving, sheets.moving)
        near = [peg[1] for peg in near_pegs(wall) if is_note(peg)]
        far = [peg[1] for peg in far_pegs(wall) if is_note(peg)]
        self.assertEqual(near, [sheet.word for sheet in sheets.near])
        self.assertEqual(far, [sheet.word for sheet in sheets.far])
        self.assertEqual(seen(wall.pegs, wall.hooks), sheets.view())

    def sound(self, wall):
        """What the document says of a wall at every moment."""
        size = size_of(wall)
        self.assertIn(wall.low, (0, size))
        used = wall.free - wall.low
        near = near_pegs(wall)
        self.assertTrue(all(is_note(peg) for peg in near[:used]))
        self.assertEqual(near[used:], [None] * (size - used))
        for thread in wall.hooks:
            if thread is not None:
                self.assertIn(thread, range(wall.low, wall.free))
        self.assertLessEqual(sum(is_note(peg) for peg in far_pegs(wall)), size - used)
        if wall.moving:
            self.sound_round(wall)
        else:
            self.sound_rest(wall)

    def sound_round(self, wall):
        self.assertIn(wall.looked, range(wall.low, wall.free + 1))
        for peg in far_pegs(wall):
            if peg is not None and peg[0] == "moved":
                self.assertIn(peg[1], range(wall.low, wall.free))
        for number in range(wall.low, wall.looked):
            self.leads_near(wall, number)

    def sound_rest(self, wall):
        self.assertEqual(far_pegs(wall), [None] * size_of(wall))
        for number in range(wall.low, wall.free):
            self.leads_near(wall, number)

    def leads_near(self, wall, number):
        for thread in wall.pegs[number][2]:
            if thread is not None:
                self.assertIn(thread, range(wall.low, wall.free))
