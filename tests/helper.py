"""What several tests of the wall need."""

import copy
import unittest

from pinwall.wall import Wall

FIELDS = ("pegs", "hooks", "low", "free", "moving", "looked")


def note(word, *threads):
    return ("note", word, threads)


def mark(number):
    return ("moved", number)


def is_note(peg):
    return peg is not None and peg[0] == "note"


def state(wall):
    return copy.deepcopy(vars(wall))


def size_of(wall):
    return len(wall.pegs) // 2


def near_pegs(wall):
    return wall.pegs[wall.low:wall.low + size_of(wall)]


def far_pegs(wall):
    start = size_of(wall) - wall.low
    return wall.pegs[start:start + size_of(wall)]


def three_notes():
    """Hook 0 leads to c, hook 1 to b; c leads to b and a, b leads to a."""
    wall = Wall(4, 2)
    wall.put(0, "a", ())
    wall.put(1, "b", (0,))
    wall.put(0, "c", (1, 0))
    return wall


def row(words, size, count=2):
    """Hook 0 leads to the last word, each word to the one ahead of it."""
    wall = Wall(size, count)
    for word in words:
        wall.put(0, word, (0,))
    return wall


class WallCase(unittest.TestCase):
    def refused(self, error, wall, deed, *told):
        """The deed is refused with just this error and changes nothing."""
        before = state(wall)
        with self.assertRaises(error) as caught:
            getattr(wall, deed)(*told)
        self.assertIs(type(caught.exception), error)
        self.assertEqual(state(wall), before)

    def sound(self, wall):
        """What the document says of a wall at every moment."""
        size = size_of(wall)
        self.assertIn(wall.low, (0, size))
        used = wall.free - wall.low
        near = near_pegs(wall)
        self.assertTrue(all(is_note(peg) for peg in near[:used]))
        self.assertEqual(near[used:], [None] * (size - used))
        for thread in wall.hooks:
            if thread is not None:
                self.assertIn(thread, range(wall.low, wall.free))
        self.assertLessEqual(sum(is_note(peg) for peg in far_pegs(wall)), size - used)
        if wall.moving:
            self.sound_round(wall)
        else:
            self.sound_rest(wall)

    def sound_round(self, wall):
        self.assertIn(wall.looked, range(wall.low, wall.free + 1))
        for peg in far_pegs(wall):
            if peg is not None and peg[0] == "moved":
                self.assertIn(peg[1], range(wall.low, wall.free))
        for number in range(wall.low, wall.looked):
            self.leads_near(wall, number)

    def sound_rest(self, wall):
        self.assertEqual(far_pegs(wall), [None] * size_of(wall))
        for number in range(wall.low, wall.free):
            self.leads_near(wall, number)

    def leads_near(self, wall, number):
        for thread in wall.pegs[number][2]:
            if thread is not None:
                self.assertIn(thread, range(wall.low, wall.free))
