"""Points 14 and 15: deeds as tuples."""

import copy
import unittest

from pinwall.errors import Busy, Full, NoNote, NoRound, NoThread
from pinwall.seeing import seen
from pinwall.story import answers, done, view_after
from pinwall.wall import Wall
from tests.helper import FIELDS, WallCase, answer_told, mark, note, outcome, row, state, three_notes

# Each deed of this day with its answer; no hook but the four of the wall.
DAY = (
    (("word", 0), None),
    (("put", 0, "a", ()), True),
    (("word", 0), "a"),
    (("put", 1, "b", (0, 1, 2)), True),
    (("put", 0, "c", (1, 0)), True),
    (("put", 2, "d", ()), None),
    (("follow", 0, 0, 2), True),
    (("word", 2), "b"),
    (("follow", 2, 1, 3), False),
    (("word", 3), None),
    (("follow", 3, 0, 1), None),
    (("follow", 0, 2, 1), None),
    (("tie", 1, 2, 0), True),
    (("tie", 1, 3, 0), None),
    (("tie", 3, 0, 0), None),
    (("drop", 0), True),
    (("drop", 0), True),
    (("step",), None),
    (("begin",), True),
    (("begin",), None),
    (("step",), False),
    (("put", 0, "e", (2,)), None),
    (("step",), False),
    (("step",), False),
    (("step",), True),
    (("step",), None),
    (("tidy",), 3),
    (("tie", 1, 2, 3), True),
    (("tidy",), 2),
    (("put", 3, "e", (3, 3)), True),
    (("begin",), True),
    (("follow", 1, 0, 1), True),
    (("word", 1), "a"),
    (("drop", 2), True),
    (("tidy",), 3),
    (("tidy",), 2),
)


class Answers(WallCase):
    def same(self, got, wanted):
        """Equal and of the same kind: True is not 1, None not False."""
        self.assertEqual(got, wanted)
        self.assertIs(type(got), type(wanted))

    def test_a_day_at_one_wall(self):
        wall = Wall(3, 4)
        for deed, answer in DAY:
            with self.subTest(deed=deed):
                before = state(wall)
                self.same(done(wall, deed), answer)
                if answer is None or deed[0] == "word":
                    self.assertEqual(state(wall), before)
                self.sound(wall)

    def test_the_same_day_by_methods(self):
        wall, twin = Wall(3, 4), Wall(3, 4)
        for deed, answer in DAY:
            with self.subTest(deed=deed):
                self.same(answer_told(outcome(wall, deed)), answer)
                done(twin, deed)
                self.assertEqual(state(wall), state(twin))

    def test_the_list_of_the_answers(self):
        got = answers(3, 4, [deed for deed, answer in DAY])
        self.assertIs(type(got), list)
        self.assertEqual(len(got), len(DAY))
        for k in range(len(DAY)):
            with self.subTest(deed=DAY[k][0]):
                self.same(got[k], DAY[k][1])

    def test_the_view_after_each_deed(self):
        wall = Wall(3, 4)
        deeds = []
        for deed, answer in DAY:
            deeds.append(deed)
            done(wall, deed)
            self.assertEqual(view_after(3, 4, deeds), seen(wall.pegs, wall.hooks))
        self.assertEqual(view_after(3, 4, deeds),
                         ([None, 0, None, 1], [("a", []), ("e", [None, None])]))

    def test_no_deeds(self):
        self.assertEqual(answers(1, 0, []), [])
        self.assertEqual(view_after(1, 0, []), ([], []))
        self.assertEqual(view_after(5, 3, []), ([None, None, None], []))

    def test_a_wall_without_hooks(self):
        deeds = [("step",), ("begin",), ("begin",), ("step",), ("step",), ("tidy",)]
        self.assertEqual(answers(1, 0, deeds), [None, True, None, True, None, 0])
        self.assertEqual(view_after(1, 0, deeds), ([], []))


class EachKind(WallCase):
    """The answer, and what the deed does to the wall."""

    def test_put(self):
        wall = Wall(3, 2)
        self.assertIs(done(wall, ("put", 1, "a", ())), True)
        self.assertIs(done(wall, ("put", 0, "", (1, 0, 1))), True)
        self.assertEqual(wall.pegs, [note("a"), note("", 0, None, 0), None, None, None, None])
        self.assertEqual(wall.hooks, [1, 0])

    def test_tie(self):
        wall = three_notes()
        self.assertIs(done(wall, ("tie", 0, 1, 0)), True)
        self.assertEqual(wall.pegs[:3], [note("a"), note("b", 0), note("c", 1, 2)])

    def test_follow(self):
        wall = three_notes()
        self.assertIs(done(wall, ("follow", 0, 1, 1)), True)
        self.assertEqual(wall.hooks, [2, 0])
        wall = row("a", 2)
        self.assertIs(done(wall, ("follow", 0, 0, 0)), False)
        self.assertEqual(wall.hooks, [None, None])

    def test_follow_to_the_far_half(self):
        wall = row("abc", 4)
        done(wall, ("begin",))
        self.assertIs(done(wall, ("follow", 0, 0, 1)), True)
        self.assertEqual(wall.hooks, [4, 5])
        self.assertEqual(wall.pegs[:6], [note("a", None), mark(5), mark(4), None, note("c", 5), note("b", 0)])

    def test_drop(self):
        wall = three_notes()
        self.assertIs(done(wall, ("drop", 1)), True)
        self.assertEqual(wall.hooks, [2, None])

    def test_word(self):
        wall = three_notes()
        before = state(wall)
        self.assertEqual([done(wall, ("word", 0)), done(wall, ("word", 1))], ["c", "b"])
        self.assertEqual(state(wall), before)

    def test_an_empty_word_is_a_word(self):
        self.assertEqual(answers(1, 1, [("put", 0, "", ()), ("word", 0)]), [True, ""])

    def test_begin_step_and_tidy(self):
        wall = three_notes()
        self.assertIs(done(wall, ("begin",)), True)
        self.assertEqual((wall.low, wall.moving), (4, True))
        self.assertIs(done(wall, ("step",)), False)
        self.assertEqual(done(wall, ("tidy",)), 3)
        self.assertEqual((wall.low, wall.moving), (4, False))
        self.assertEqual(wall.pegs, [None] * 4 + [note("c", 5, 6), note("b", 6), note("a"), None])

    def test_tidy_counts_all_notes_on_the_wall(self):
        wall = row("ab", 3)
        done(wall, ("begin",))
        done(wall, ("drop", 0))
        # Both were still there when the round began; from no hook can they
        # be reached any more.
        self.assertEqual(seen(wall.pegs, wall.hooks), ([None, None], []))
        self.assertEqual(done(wall, ("tidy",)), 2)
        answer = done(wall, ("tidy",))
        self.assertEqual((answer, type(answer)), (0, int))


class Refusals(WallCase):
    def answered_with_none(self, error, wall, deed):
        before = state(wall)
        self.assertIs(done(wall, deed), None)
        self.assertEqual(state(wall), before)
        for field in FIELDS:
            self.assertEqual(getattr(wall, field), before[field])
        self.assertEqual(outcome(wall, deed), (error, None))
        self.assertEqual(state(wall), before)

    def test_full(self):
        wall = row("abc", 3)
        self.answered_with_none(Full, wall, ("put", 1, "d", (0,)))
        wall.begin()
        while wall.moving:
            self.answered_with_none(Full, wall, ("put", 0, "d", ()))
            wall.step()
        self.answered_with_none(Full, wall, ("put", 0, "d", ()))

    def test_no_note(self):
        for moving in (False, True):
            wall = three_notes()
            wall.drop(1)
            if moving:
                wall.begin()
            for deed in (("tie", 1, 0, 0), ("tie", 1, 9, 1), ("follow", 1, 0, 0), ("follow", 1, 0, 1), ("word", 1)):
                with self.subTest(moving=moving, deed=deed):
                    self.answered_with_none(NoNote, wall, deed)

    def test_no_thread(self):
        for moving in (False, True):
            wall = three_notes()
            if moving:
                wall.begin()
            for deed in (("tie", 0, 2, 1), ("tie", 1, 1, 1), ("follow", 0, 2, 1), ("follow", 1, 999, 1)):
                with self.subTest(moving=moving, deed=deed):
                    self.answered_with_none(NoThread, wall, deed)

    def test_busy(self):
        wall = three_notes()
        wall.begin()
        while wall.moving:
            self.answered_with_none(Busy, wall, ("begin",))
            wall.step()

    def test_no_round(self):
        wall = three_notes()
        self.answered_with_none(NoRound, wall, ("step",))
        wall.tidy()
        self.answered_with_none(NoRound, wall, ("step",))

    def test_a_day_goes_on_behind_a_refusal(self):
        deeds = [("word", 0), ("step",), ("put", 0, "a", ()), ("put", 0, "b", ()), ("word", 0)]
        self.assertEqual(answers(1, 1, deeds), [None, None, True, None, "a"])
        self.assertEqual(view_after(1, 1, deeds), ([0], [("a", [])]))


class HandedIn(WallCase):
    def test_the_deeds_are_as_they_were(self):
        deeds = [deed for deed, answer in DAY]
        before = copy.deepcopy(deeds)
        answers(3, 4, deeds)
        self.assertEqual(deeds, before)
        view_after(3, 4, deeds)
        self.assertEqual(deeds, before)

    def test_each_call_has_a_new_wall(self):
        deeds = [deed for deed, answer in DAY]
        first = (answers(3, 4, deeds), view_after(3, 4, deeds))
        self.assertEqual((answers(3, 4, deeds), view_after(3, 4, deeds)), first)

    def test_answers_and_views_are_new_ones(self):
        deeds = [("put", 0, "a", (0,))]
        answers(1, 1, deeds).append("more")
        self.assertEqual(answers(1, 1, deeds), [True])
        view = view_after(1, 1, deeds)
        view[0][0] = None
        view[1][0][1][0] = 7
        view[1].append("more")
        self.assertEqual(view_after(1, 1, deeds), ([0], [("a", [None])]))

    def test_a_second_wall_is_as_it_was(self):
        wall, beside = Wall(3, 4), Wall(3, 4)
        bare = state(Wall(3, 4))
        other = three_notes()
        other.begin()
        before = state(other)
        for deed, answer in DAY:
            done(wall, deed)
            self.assertEqual(state(beside), bare)
            self.assertEqual(state(other), before)


class BeyondTheBounds(WallCase):
    def test_more_pegs_hooks_threads_and_deeds_than_told(self):
        others = tuple(range(30))
        deeds = [("put", k % 30, "w", others) for k in range(250)]
        self.assertEqual(answers(250, 30, deeds + [("tidy",), ("put", 0, "x", ())]), [True] * 250 + [250, None])
        view = view_after(250, 30, deeds)
        self.assertEqual((len(view[0]), len(view[1]), len(view[1][0][1])), (30, 250, 30))

    def test_a_long_row_of_notes(self):
        many = 3000
        deeds = [("put", 0, "w", (0,)) for again in range(many)]
        self.assertEqual(answers(many, 1, deeds + [("begin",), ("tidy",)])[-1], many)
        view = view_after(many, 1, deeds)
        self.assertEqual(view[1], [("w", [k + 1 if k + 1 < many else None]) for k in range(many)])


if __name__ == "__main__":
    unittest.main()
