"""Whole days of deeds as tuples, beside notes that are kept by themselves (points 1 to 15)."""

import itertools
import random
import unittest

from pinwall.story import answers, done, view_after
from pinwall.wall import Wall
from tests.helper import Sheets, WallCase, answer_told, outcome, some_deed

ROUNDS_ALL_DAY = ("put", "put", "put", "follow", "follow", "tie", "begin", "step", "step", "step")
NO_ROUNDS = ("put", "put", "follow", "tie", "tie", "drop", "word")
ALWAYS_TIDYING = ("put", "put", "put", "follow", "tie", "tidy", "begin", "drop")


class Days(WallCase):
    def told(self, size, count, deeds):
        """The answers to the deeds, and the view after them, of the sheets."""
        sheets = Sheets(size, count)
        return ([answer_told(outcome(sheets, deed)) for deed in deeds], sheets.view())

    def day(self, size, count, deeds):
        wanted, view = self.told(size, count, deeds)
        got = answers(size, count, deeds)
        self.assertEqual(got, wanted)
        self.assertEqual([type(answer) for answer in got], [type(answer) for answer in wanted])
        self.assertEqual(view_after(size, count, deeds), view)

    def watched(self, size, count, deeds):
        """The same, with a look behind each deed."""
        wall, sheets = Wall(size, count), Sheets(size, count)
        for deed in deeds:
            self.assertEqual(done(wall, deed), answer_told(outcome(sheets, deed)))
            self.like(wall, sheets)

    def test_days_of_every_sort(self):
        for seed in range(160):
            chance = random.Random(f"day {seed}")
            kinds = (ROUNDS_ALL_DAY, NO_ROUNDS, ALWAYS_TIDYING)[seed % 3]
            size = (1, 2, 3, 5, 8, 13, 60, 200)[seed % 8]
            count = (1, 2, 4, 7, 20)[seed % 5]
            deeds = [some_deed(chance, count, serial, kinds) for serial in range(200)]
            with self.subTest(seed=seed, size=size, count=count):
                self.day(size, count, deeds)
                self.watched(size, count, deeds)

    def test_a_full_large_wall_in_rounds(self):
        chance = random.Random("large")
        deeds = [("put", serial % 20, f"w{serial}", tuple(chance.randrange(20) for again in range(20)))
                 for serial in range(200)]
        deeds.append(("put", 0, "more", ()))
        deeds.append(("begin",))
        deeds += [some_deed(chance, 20, 300 + serial) for serial in range(200)]
        self.watched(200, 20, deeds)
        self.day(200, 20, deeds)

    def test_all_short_days_at_small_walls(self):
        deeds = (
            ("put", 0, "a", (0, 1)), ("put", 1, "b", (0,)), ("tie", 0, 0, 1), ("follow", 0, 0, 1),
            ("follow", 1, 0, 1), ("drop", 0), ("begin",), ("step",))
        for size in (1, 2):
            for day in itertools.product(deeds, repeat=4):
                self.day(size, 2, list(day))

    def test_all_short_days_behind_the_beginning_of_a_round(self):
        start = [("put", 0, "a", (0,)), ("put", 1, "b", (0, 1)), ("tie", 0, 0, 1), ("tie", 1, 1, 1),
                 ("drop", 0), ("begin",)]
        deeds = (
            ("put", 0, "c", (1, 0)), ("tie", 1, 0, 0), ("follow", 1, 0, 0), ("follow", 1, 1, 1),
            ("follow", 0, 0, 1), ("drop", 1), ("step",), ("tidy",))
        for size in (2, 3):
            for day in itertools.product(deeds, repeat=4):
                self.day(size, 2, start + list(day))


class RoundsOfADay(WallCase):
    def test_one_step_for_each_note_that_can_be_reached_and_one_more(self):
        for seed in range(40):
            chance = random.Random(f"round {seed}")
            size = (3, 6, 12, 40)[seed % 4]
            deeds = [some_deed(chance, 3, serial) for serial in range(60)] + [("tidy",)]
            # Loose ends, so that what the next round finds is not all there is.
            deeds += [some_deed(chance, 3, 60 + serial, NO_ROUNDS) for serial in range(20)]
            many = len(view_after(size, 3, deeds)[1])
            told = answers(size, 3, deeds + [("begin",)] + [("step",)] * (many + 2) + [("tidy",)] * 3)
            with self.subTest(seed=seed):
                self.assertEqual(told[len(deeds):], [True] + [False] * many + [True, None] + [many] * 3)

    def test_what_is_seen_is_the_same_at_every_step(self):
        chance = random.Random("steps")
        deeds = [some_deed(chance, 4, serial, ("put", "put", "tie")) for serial in range(60)]
        view = view_after(30, 4, deeds)
        self.assertGreater(len(view[1]), 5)
        deeds.append(("begin",))
        for again in range(len(view[1]) + 3):
            self.assertEqual(view_after(30, 4, deeds), view)
            deeds.append(("step",))


if __name__ == "__main__":
    unittest.main()
