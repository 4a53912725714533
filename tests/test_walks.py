"""Long rows of deeds, by methods and as tuples, beside notes that are never moved (points 1 to 15)."""

import random
import unittest

from pinwall.errors import Busy, Full, NoNote, NoRound, NoThread
from pinwall.seeing import seen
from pinwall.story import done
from pinwall.wall import Wall
from tests.helper import Sheets, WallCase, answer_told, is_note, outcome, some_deed, state


class Walks(WallCase):
    def walk(self, seed, size, count, deeds):
        """The kinds of outcome that were met: a refusal's name, or None."""
        chance = random.Random(seed)
        wall, twin, sheets = Wall(size, count), Wall(size, count), Sheets(size, count)
        since = set()
        met = set()
        for serial in range(deeds):
            deed = some_deed(chance, count, serial)
            before = state(wall)
            if deed[0] in ("begin", "tidy") and not sheets.moving:
                since = {sheet.word for sheet in sheets.met()}
            got = outcome(wall, deed)
            self.assertEqual(got, outcome(sheets, deed))
            answer = done(twin, deed)
            self.assertEqual((answer, type(answer)), (answer_told(got), type(answer_told(got))))
            self.assertEqual(state(wall), state(twin))
            met.add(got[0])
            if got[0] is not None or deed[0] == "word":
                self.assertEqual(state(wall), before)
            elif deed[0] == "put":
                since.add(deed[2])
            elif deed[0] == "tidy" or got == (None, True) and deed[0] == "step":
                self.ended(wall, sheets, since)
            self.like(wall, sheets)
        return met

    def ended(self, wall, sheets, since):
        """Point 13."""
        words = {peg[1] for peg in wall.pegs if is_note(peg)}
        self.assertLessEqual({sheet.word for sheet in sheets.met()}, words)
        self.assertLessEqual(words, since)

    def test_walls_of_many_sizes(self):
        met = set()
        for seed in range(120):
            size = (1, 2, 3, 4, 6, 9, 15, 30)[seed % 8]
            count = (1, 2, 3, 5)[seed % 4]
            with self.subTest(seed=seed, size=size, count=count):
                met |= self.walk(seed, size, count, 200)
        self.assertEqual(met, {None, Full, NoNote, NoThread, Busy, NoRound})

    def test_a_large_wall(self):
        self.walk(1000, 200, 20, 400)

    def test_undisturbed_rounds(self):
        for seed in range(60):
            chance = random.Random(seed)
            wall = Wall(12, 3)
            for serial in range(60):
                outcome(wall, some_deed(chance, 3, serial))
            if wall.moving:
                wall.tidy()
            view = seen(wall.pegs, wall.hooks)
            wall.begin()
            self.assertEqual(seen(wall.pegs, wall.hooks), view)
            steps = 1
            while not wall.step():
                steps += 1
                self.assertEqual(seen(wall.pegs, wall.hooks), view)
            with self.subTest(seed=seed):
                self.assertEqual(seen(wall.pegs, wall.hooks), view)
                self.assertEqual(steps, len(view[1]) + 1)
                self.assertEqual(wall.free - wall.low, len(view[1]))
                self.assertEqual([wall.tidy(), wall.tidy()], [len(view[1])] * 2)


if __name__ == "__main__":
    unittest.main()
