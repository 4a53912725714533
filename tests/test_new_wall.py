"""Points 2 to 4: a new wall."""

import unittest

from pinwall.errors import NoNote, NoRound
from pinwall.wall import Wall
from tests.helper import FIELDS, WallCase, note, state


class NewWall(WallCase):
    def test_nothing_is_on_it(self):
        for size, count in ((1, 0), (1, 1), (3, 2), (200, 20), (250, 25)):
            with self.subTest(size=size, count=count):
                wall = Wall(size, count)
                self.assertEqual(wall.pegs, [None] * (2 * size))
                self.assertEqual(wall.hooks, [None] * count)
                self.assertEqual((wall.low, wall.free), (0, 0))
                self.assertIs(wall.moving, False)
                self.sound(wall)

    def test_kinds_of_the_fields(self):
        wall = Wall(2, 1)
        kinds = [type(getattr(wall, name)) for name in FIELDS]
        self.assertEqual(kinds, [list, list, int, int, bool, int])

    def test_arguments_have_their_names(self):
        self.assertEqual(state(Wall(size=2, count=3)), state(Wall(2, 3)))

    def test_no_round_is_on(self):
        self.refused(NoRound, Wall(2, 1), "step")

    def test_hooks_lead_to_no_note(self):
        for hook in range(3):
            self.refused(NoNote, Wall(2, 3), "word_of", hook)

    def test_no_hooks_at_all(self):
        wall = Wall(2, 0)
        self.assertEqual(wall.tidy(), 0)
        self.assertEqual(wall.low, 2)
        wall.begin()
        self.assertIs(wall.step(), True)
        self.assertEqual((wall.pegs, wall.hooks, wall.low), ([None] * 4, [], 0))

    def test_one_peg_a_half(self):
        wall = Wall(1, 1)
        wall.put(0, "a", (0,))
        self.assertEqual(wall.pegs, [note("a", None), None])
        self.assertEqual(wall.free, 1)
        wall.begin()
        self.assertEqual((wall.low, wall.free, wall.hooks), (1, 2, [1]))
        self.assertEqual([wall.step(), wall.step()], [False, True])
        self.assertEqual(wall.pegs, [None, note("a", None)])

    def test_walls_share_nothing(self):
        first = Wall(2, 2)
        second = Wall(2, 2)
        untouched = state(second)
        first.put(0, "a", ())
        first.put(1, "b", (0,))
        first.begin()
        self.assertEqual(state(second), untouched)
        kept = state(first)
        second.put(1, "z", ())
        second.tidy()
        self.assertEqual(state(first), kept)


if __name__ == "__main__":
    unittest.main()
