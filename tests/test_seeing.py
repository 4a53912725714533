"""Points 16 and 17: views, and walls built to them."""

import copy
import random
import unittest

from pinwall.errors import Full, WallError
from pinwall.seeing import built, seen
from pinwall.story import done
from pinwall.wall import Wall
from tests.helper import (
    Sheet, Sheets, WallCase, answer_told, far_pegs, is_note, mark, near_pegs, note, outcome, row, size_of,
    some_deed, state, three_notes)


def sheets_of(size, view):
    """The notes of a view kept by themselves."""
    sheets = Sheets(size, len(view[0]))
    sheets.near = [Sheet(word, []) for word, numbers in view[1]]

    def led(numbers):
        return [None if number is None else sheets.near[number] for number in numbers]

    for sheet, (word, numbers) in zip(sheets.near, view[1]):
        sheet.threads = led(numbers)
    sheets.hooks = led(view[0])
    return sheets


def some_view(chance, many, count):
    numbers = [None] + list(range(many))
    return ([chance.choice(numbers) for hook in range(count)],
            [(f"w{k}", [chance.choice(numbers) for thread in range(chance.randrange(4))]) for k in range(many)])


class Seen(WallCase):
    def test_the_form(self):
        view = seen([note("a", 0, None), None], [0, None])
        self.assertEqual(view, ([0, None], [("a", [0, None])]))
        self.assertIs(type(view), tuple)
        self.assertEqual([type(part) for part in view], [list, list])
        self.assertIs(type(view[1][0]), tuple)
        self.assertEqual([type(part) for part in view[1][0]], [str, list])

    def test_three_notes(self):
        wall = three_notes()
        self.assertEqual(seen(wall.pegs, wall.hooks), ([0, 1], [("c", [1, 2]), ("b", [2]), ("a", [])]))

    def test_hooks_first_then_note_by_note(self):
        pegs = [
            note("deep"), note("left", 0), note("right", 3), note("last"), note("top", 2, 1), note("other", 3),
            None, None, None, None, None, None]
        self.assertEqual(seen(pegs, [4, 5]), ([0, 1], [
            ("top", [2, 3]), ("other", [4]), ("right", [4]), ("left", [5]), ("last", []), ("deep", [])]))
        self.assertEqual(seen(pegs, [5, 4]), ([0, 1], [
            ("other", [2]), ("top", [3, 4]), ("last", []), ("right", [2]), ("left", [5]), ("deep", [])]))

    def test_the_numbers_of_the_pegs_do_not_matter(self):
        first = [note("a", 1, 2), note("b", 2), note("c", 0), None, None, None]
        second = [note("c", 2), note("b", 0), note("a", 1, 0), None, None, None]
        third = [None, None, None, note("b", 5), note("a", 3, 5), note("c", 4)]
        view = ([0, None], [("a", [1, 2]), ("b", [2]), ("c", [0])])
        self.assertEqual(seen(first, [0, None]), view)
        self.assertEqual(seen(second, [2, None]), view)
        self.assertEqual(seen(third, [4, None]), view)

    def test_notes_met_by_several_ways(self):
        pegs = [note("a"), note("b", 0, 0), note("c", 0, 1, 0), None, None, None]
        self.assertEqual(seen(pegs, [2, 2, 0, 2]), ([0, 0, 1, 0], [("c", [1, 2, 1]), ("a", []), ("b", [1, 1])]))

    def test_words_alike_are_still_two_notes(self):
        pegs = [note("a"), note("a"), None, None]
        self.assertEqual(seen(pegs, [1, 0, 1]), ([0, 1, 0], [("a", []), ("a", [])]))

    def test_threads_to_no_note(self):
        pegs = [note("a", None, None), note("b", None, 0), None, None]
        self.assertEqual(seen(pegs, [1]), ([0], [("b", [None, 1]), ("a", [None, None])]))

    def test_rings(self):
        self.assertEqual(seen([note("a", 0, 0), None], [0]), ([0], [("a", [0, 0])]))
        pegs = [note("a", 1), note("b", 2), note("c", 0), None, None, None]
        self.assertEqual(seen(pegs, [1]), ([0], [("b", [1]), ("c", [2]), ("a", [0])]))

    def test_hooks_to_no_note(self):
        pegs = [note("a"), None]
        self.assertEqual(seen(pegs, [None, 0, None]), ([None, 0, None], [("a", [])]))
        self.assertEqual(seen(pegs, [None, None]), ([None, None], []))

    def test_no_hooks(self):
        self.assertEqual(seen([note("a"), None], []), ([], []))
        self.assertEqual(seen([None, None], []), ([], []))

    def test_a_new_wall(self):
        wall = Wall(2, 3)
        self.assertEqual(seen(wall.pegs, wall.hooks), ([None, None, None], []))

    def test_notes_that_cannot_be_reached(self):
        pegs = [note("a"), note("b", 0), note("c", 0, 1), None, None, None]
        self.assertEqual(seen(pegs, [0]), ([0], [("a", [])]))
        self.assertEqual(seen(pegs, [1]), ([0], [("b", [1]), ("a", [])]))

    def test_marks_in_the_midst_of_a_round(self):
        # To "b" one thread leads by its mark and one by its own peg.
        pegs = [note("a"), mark(5), mark(4), None,
                note("c", 1, 5, 0, 2), note("b", 0, 1), None, None]
        self.assertEqual(seen(pegs, [4, 5]), ([0, 1], [("c", [1, 1, 2, 0]), ("b", [2, 1]), ("a", [])]))

    def test_marks_of_the_other_half(self):
        pegs = [note("c", 3, 1), note("b", 4), None, mark(1), note("a", 5), mark(0)]
        self.assertEqual(seen(pegs, [0]), ([0], [("c", [1, 1]), ("b", [2]), ("a", [0])]))

    def test_each_step_of_a_round(self):
        for wall in (three_notes(), row("abcde", 5), row("a", 1)):
            for again in range(2):
                view = seen(wall.pegs, wall.hooks)
                wall.begin()
                while wall.moving:
                    self.assertEqual(seen(wall.pegs, wall.hooks), view)
                    wall.step()
                self.assertEqual(seen(wall.pegs, wall.hooks), view)

    def test_a_long_row(self):
        many = 5000
        pegs = [note("w", k - 1 if k else None) for k in range(many)] + [None] * many
        view = seen(pegs, [many - 1])
        self.assertEqual(view, ([0], [("w", [k + 1 if k + 1 < many else None]) for k in range(many)]))

    def test_pegs_and_hooks_are_as_they_were(self):
        pegs = [note("a"), mark(5), mark(4), None, note("c", 1, 0), note("b", 0), None, None]
        hooks = [4, None, 5]
        before = copy.deepcopy((pegs, hooks))
        view = seen(pegs, hooks)
        self.assertEqual((pegs, hooks), before)
        kept = copy.deepcopy(view)
        pegs[4] = None
        hooks[0] = None
        self.assertEqual(view, kept)

    def test_changing_a_view_changes_no_wall(self):
        wall = three_notes()
        before = state(wall)
        view = seen(wall.pegs, wall.hooks)
        view[0][0] = 7
        view[1][0][1][0] = 7
        view[1].clear()
        self.assertEqual(state(wall), before)
        self.assertEqual(seen(wall.pegs, wall.hooks), ([0, 1], [("c", [1, 2]), ("b", [2]), ("a", [])]))


class Built(WallCase):
    def rests_as_told(self, size, view):
        """Built to the view, whatever its numbers; gives the wall."""
        wall = built(size, view)
        self.assertIs(type(wall), Wall)
        self.sound(wall)
        self.assertEqual(len(wall.pegs), 2 * size)
        self.assertEqual(len(wall.hooks), len(view[0]))
        self.assertIs(wall.moving, False)
        self.assertEqual(wall.low, 0)
        self.assertEqual(far_pegs(wall), [None] * size)
        self.assertLessEqual(wall.free, len(view[1]))
        self.assertEqual(seen(wall.pegs, wall.hooks), sheets_of(size, view).view())
        return wall

    def test_seen_again(self):
        views = (
            ([0, 1], [("c", [1, 2]), ("b", [2]), ("a", [])]),
            ([0], [("a", [0, 0])]),
            ([None, 0, None, 0], [("a", [1]), ("", [None, 2]), ("a", [0, 1, 2])]),
            ([None, None], []),
            ([], []),
        )
        for view in views:
            for more in (0, 1, 5):
                with self.subTest(view=view, more=more):
                    wall = self.rests_as_told(max(1, len(view[1]) + more), view)
                    self.assertEqual(seen(wall.pegs, wall.hooks), view)

    def test_numbered_in_another_way(self):
        wall = self.rests_as_told(4, ([2, 1], [("a", []), ("b", [0]), ("c", [1, 0])]))
        self.assertEqual(seen(wall.pegs, wall.hooks), ([0, 1], [("c", [1, 2]), ("b", [2]), ("a", [])]))

    def test_notes_that_cannot_be_reached(self):
        wall = self.rests_as_told(4, ([1], [("x", [1, 3]), ("a", [2]), ("b", [None]), ("y", [0])]))
        self.assertEqual(seen(wall.pegs, wall.hooks), ([0], [("a", [1]), ("b", [None])]))
        self.assertEqual(wall.tidy(), 2)

    def test_none_can_be_reached(self):
        for hooks in ([], [None, None]):
            wall = self.rests_as_told(2, (hooks, [("a", [1]), ("b", [0])]))
            self.assertEqual(seen(wall.pegs, wall.hooks), (hooks, []))
            self.assertEqual(wall.tidy(), 0)

    def test_no_note_and_no_hook(self):
        self.assertEqual(state(built(3, ([], []))), state(Wall(3, 0)))
        self.assertEqual(state(built(1, ([None, None], []))), state(Wall(1, 2)))

    def test_full(self):
        views = (
            ([0], [("a", [1]), ("b", [2]), ("c", [])]),
            ([2, 1, 0], [("a", []), ("b", []), ("c", [])]),
            # None of these can be reached, and there are too many all the same.
            ([], [("a", []), ("b", []), ("c", [])]),
        )
        for view in views:
            for size in (1, 2):
                with self.subTest(view=view, size=size):
                    before = copy.deepcopy(view)
                    with self.assertRaises(Full) as caught:
                        built(size, view)
                    self.assertIs(type(caught.exception), Full)
                    self.assertIsInstance(caught.exception, WallError)
                    self.assertEqual(view, before)
            for size in (3, 4, 200):
                self.rests_as_told(size, view)

    def test_a_full_wall_takes_no_more(self):
        wall = built(2, ([0], [("a", [1]), ("b", [])]))
        self.refused(Full, wall, "put", 0, "c", ())
        wall.begin()
        self.refused(Full, wall, "put", 0, "c", ())
        self.assertEqual(wall.tidy(), 2)
        wall.follow(0, 0, 0)
        self.assertEqual(wall.tidy(), 1)
        wall.put(0, "c", (0,))
        self.assertEqual(seen(wall.pegs, wall.hooks), ([0], [("c", [1]), ("b", [])]))

    def test_the_next_note_hangs_behind_the_others(self):
        wall = built(3, ([0], [("a", [0])]))
        wall.put(0, "c", (0,))
        self.assertEqual(wall.pegs[:3], [note("a", 0), note("c", 0), None])
        self.assertEqual((wall.hooks, wall.free), ([1], 2))

    def test_the_pegs_hold_notes_as_any_others(self):
        wall = built(2, ([0], [("a", [0, None])]))
        self.assertEqual(wall.pegs, [note("a", 0, None), None, None, None])
        self.assertEqual([type(part) for part in wall.pegs[0]], [str, str, tuple])
        self.assertEqual([type(wall.pegs), type(wall.hooks)], [list, list])

    def test_beyond_the_bounds(self):
        many = 300
        view = ([k for k in range(30)], [("w", [(k + t) % many for t in range(30)]) for k in range(many)])
        wall = self.rests_as_told(many, view)
        self.assertEqual(wall.tidy(), many)

    def test_the_view_is_as_it_was_and_not_kept(self):
        view = ([0, None], [("a", [1, None]), ("b", [0])])
        before = copy.deepcopy(view)
        wall = built(3, view)
        self.assertEqual(view, before)
        held = state(wall)
        view[0][1] = 1
        view[1][0][1][1] = 1
        view[1].append(("c", []))
        self.assertEqual(state(wall), held)
        self.assertEqual(seen(wall.pegs, wall.hooks), before)

    def test_deeds_do_not_change_the_view(self):
        view = ([0, None], [("a", [1, None]), ("b", [0])])
        before = copy.deepcopy(view)
        wall = built(4, view)
        for deed in (("tie", 0, 1, 0), ("follow", 0, 0, 1), ("put", 0, "c", (0, 1)), ("drop", 1), ("tidy",)):
            done(wall, deed)
            self.assertEqual(view, before)

    def test_two_walls_of_one_view(self):
        view = ([0, None], [("a", [1, None]), ("b", [0])])
        wall, beside = built(4, view), built(4, view)
        before = state(beside)
        for deed in (("tie", 0, 1, 0), ("follow", 0, 0, 1), ("put", 0, "c", (0, 1)), ("drop", 1), ("tidy",)):
            done(wall, deed)
        self.assertEqual(state(beside), before)


class BuiltByChance(WallCase):
    def test_any_view(self):
        for seed in range(200):
            chance = random.Random(f"view {seed}")
            many = chance.randrange(9)
            view = some_view(chance, many, chance.randrange(5))
            size = max(1, many + chance.randrange(3))
            wall = built(size, view)
            wanted = sheets_of(size, view).view()
            with self.subTest(seed=seed, view=view):
                self.sound(wall)
                self.assertEqual(seen(wall.pegs, wall.hooks), wanted)
                self.assertEqual(wall.tidy(), len(wanted[1]))
                self.assertEqual(seen(wall.pegs, wall.hooks), wanted)
                again = built(size, wanted)
                self.assertEqual(seen(again.pegs, again.hooks), wanted)

    def test_a_wall_seen_and_built_goes_on_like_the_first(self):
        for seed in range(60):
            chance = random.Random(f"twin {seed}")
            size, count = (2, 3, 5, 12)[seed % 4], (1, 2, 4)[seed % 3]
            wall = Wall(size, count)
            for serial in range(40):
                done(wall, some_deed(chance, count, serial))
            wall.tidy()
            # Two rounds, for the notes to have the order of a view.
            wall.tidy()
            twin = built(size_of(wall), seen(wall.pegs, wall.hooks))
            for serial in range(80):
                deed = some_deed(chance, count, 100 + serial)
                self.assertEqual(done(wall, deed), done(twin, deed))
                self.assertEqual(seen(wall.pegs, wall.hooks), seen(twin.pegs, twin.hooks))

    def test_deeds_and_rounds_at_a_built_wall(self):
        for seed in range(80):
            chance = random.Random(f"built {seed}")
            many, count = (1, 3, 6, 10)[seed % 4], (1, 2, 4)[seed % 3]
            size = many + chance.randrange(3)
            # All notes of this view can be reached, so that all are there.
            view = sheets_of(many, some_view(chance, many, count)).view()
            wall, sheets = built(size, view), sheets_of(size, view)
            with self.subTest(seed=seed, view=view):
                self.assertEqual(sum(is_note(peg) for peg in near_pegs(wall)), len(view[1]))
                for serial in range(80):
                    deed = some_deed(chance, count, serial)
                    self.assertEqual(done(wall, deed), answer_told(outcome(sheets, deed)))
                    self.sound(wall)
                    self.assertEqual(seen(wall.pegs, wall.hooks), sheets.view())


if __name__ == "__main__":
    unittest.main()
