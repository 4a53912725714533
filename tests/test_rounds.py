"""Points 6 and 8 to 13: rounds, and deeds while one is on."""

import unittest

from pinwall.errors import Busy, Full, NoNote, NoRound, NoThread
from pinwall.wall import Wall
from tests.helper import WallCase, far_pegs, mark, note, row, state, three_notes


class Beginning(WallCase):
    def test_halves_change_and_hooks_notes_are_moved_in_order(self):
        wall = three_notes()
        wall.begin()
        self.assertEqual(wall.pegs, [
            note("a"), mark(5), mark(4), None,
            note("c", 1, 0), note("b", 0), None, None])
        self.assertEqual(wall.hooks, [4, 5])
        self.assertEqual((wall.low, wall.free, wall.looked), (4, 6, 4))
        self.assertIs(wall.moving, True)
        self.sound(wall)

    def test_a_note_of_two_hooks_is_moved_once(self):
        wall = Wall(3, 4)
        wall.put(1, "a", ())
        wall.put(3, "b", ())
        wall.put(0, "c", (1,))
        wall.follow(0, 0, 0)
        wall.begin()
        self.assertEqual(wall.hooks, [3, 3, None, 4])
        self.assertEqual(wall.pegs, [mark(3), mark(4), note("c", 0), note("a"), note("b"), None])

    def test_no_hook_leads_to_a_note(self):
        wall = row("ab", 2, 1)
        wall.drop(0)
        wall.begin()
        self.assertEqual(wall.pegs, [note("a", None), note("b", 0), None, None])
        self.assertEqual((wall.low, wall.free, wall.hooks), (2, 2, [None]))

    def test_the_next_round_goes_back(self):
        wall = three_notes()
        wall.tidy()
        wall.begin()
        self.assertEqual((wall.low, wall.free, wall.looked), (0, 2, 0))
        self.assertEqual(wall.hooks, [0, 1])
        self.assertEqual(wall.pegs, [
            note("c", 5, 6), note("b", 6), None, None,
            mark(0), mark(1), note("a"), None])

    def test_busy_while_a_round_is_on(self):
        wall = three_notes()
        wall.begin()
        self.refused(Busy, wall, "begin")
        while True:
            self.refused(Busy, wall, "begin")
            if wall.step():
                break
        wall.begin()
        self.assertIs(wall.moving, True)

    def test_busy_on_a_bare_wall(self):
        wall = Wall(1, 0)
        wall.begin()
        self.refused(Busy, wall, "begin")


class Stepping(WallCase):
    def test_each_step_looks_through_the_next_note(self):
        wall = three_notes()
        wall.begin()
        self.assertIs(wall.step(), False)
        self.assertEqual(wall.pegs, [
            mark(6), mark(5), mark(4), None,
            note("c", 5, 6), note("b", 0), note("a"), None])
        self.assertEqual((wall.looked, wall.free), (5, 7))
        self.assertIs(wall.step(), False)
        self.assertEqual(wall.pegs[4:], [note("c", 5, 6), note("b", 6), note("a"), None])
        self.assertEqual((wall.looked, wall.free), (6, 7))
        self.assertIs(wall.step(), False)
        self.assertEqual(wall.pegs[:4], [mark(6), mark(5), mark(4), None])
        self.assertIs(wall.moving, True)
        self.assertIs(wall.step(), True)
        self.assertEqual(wall.pegs, [None] * 4 + [note("c", 5, 6), note("b", 6), note("a"), None])
        self.assertIs(wall.moving, False)
        self.assertEqual((wall.low, wall.free, wall.hooks), (4, 7, [4, 5]))
        self.sound(wall)

    def test_threads_in_their_order_and_each_note_once(self):
        wall = Wall(4, 3)
        wall.put(0, "a", ())
        wall.put(1, "b", ())
        wall.put(2, "c", (1, 0, 1, 0))
        wall.drop(0)
        wall.drop(1)
        wall.begin()
        wall.step()
        self.assertEqual(wall.pegs[4:], [note("c", 5, 6, 5, 6), note("b"), note("a"), None])

    def test_notes_are_moved_breadth_first(self):
        wall = Wall(6, 3)
        wall.put(0, "a", ())
        wall.put(0, "b", (0,))
        wall.put(1, "c", ())
        wall.put(1, "d", (1,))
        wall.put(2, "e", (0, 1))
        wall.drop(0)
        wall.drop(1)
        self.assertEqual(wall.tidy(), 5)
        self.assertEqual([peg[1] for peg in wall.pegs[6:11]], ["e", "b", "d", "a", "c"])
        self.assertEqual(wall.pegs[6:9], [note("e", 7, 8), note("b", 9), note("d", 10)])

    def test_threads_to_no_note_stay_so(self):
        wall = Wall(2, 2)
        wall.put(0, "a", (1,))
        wall.put(0, "b", (1, 0, 1))
        wall.tidy()
        self.assertEqual(wall.pegs[2:], [note("b", None, 3, None), note("a", None)])

    def test_threads_in_a_ring(self):
        wall = Wall(3, 2)
        wall.put(0, "a", (0,))
        wall.put(1, "b", (0, 1))
        wall.tie(0, 0, 1)
        wall.tie(1, 1, 1)
        wall.drop(1)
        wall.begin()
        self.assertEqual([wall.step(), wall.step(), wall.step()], [False, False, True])
        self.assertEqual(wall.pegs, [None, None, None, note("a", 4), note("b", 3, 4), None])

    def test_what_is_not_reached_is_taken_off(self):
        wall = row("abcd", 4)
        wall.follow(0, 0, 0)
        wall.follow(0, 0, 0)
        wall.begin()
        self.assertEqual([wall.step() for again in range(3)], [False, False, True])
        self.assertEqual(wall.pegs, [None] * 4 + [note("b", 5), note("a", None), None, None])

    def test_one_step_for_each_note_and_one_more(self):
        for many in (0, 1, 2, 7, 200):
            with self.subTest(many=many):
                wall = row([str(number) for number in range(many)], many + 1)
                wall.begin()
                answers = [wall.step() for again in range(many + 1)]
                self.assertEqual(answers, [False] * many + [True])
                self.assertEqual(wall.free - wall.low, many)
                self.refused(NoRound, wall, "step")

    def test_no_round_at_rest(self):
        wall = three_notes()
        self.refused(NoRound, wall, "step")
        wall.tidy()
        self.refused(NoRound, wall, "step")

    def test_notes_put_up_are_looked_through_as_well(self):
        wall = row("ab", 4)
        wall.begin()
        wall.put(1, "new", (0, 1))
        self.assertEqual(wall.pegs[4:6], [note("b", 0), note("new", 4, None)])
        self.assertEqual(wall.hooks, [4, 5])
        self.sound(wall)
        self.assertEqual([wall.step() for again in range(4)], [False, False, False, True])
        self.assertEqual(wall.pegs[4:], [note("b", 6), note("new", 4, None), note("a", None), None])

    def test_a_note_put_up_when_all_was_looked_through(self):
        wall = row("a", 2)
        wall.begin()
        self.assertIs(wall.step(), False)
        wall.put(1, "new", (0,))
        self.assertIs(wall.step(), False)
        self.assertIs(wall.moving, True)
        self.assertIs(wall.step(), True)
        self.assertEqual(wall.pegs, [None, None, note("a", None), note("new", 2)])

    def test_notes_moved_and_dropped_during_a_round_stay_till_the_next(self):
        wall = row("ab", 3)
        wall.begin()
        wall.put(1, "new", ())
        wall.drop(0)
        wall.drop(1)
        self.assertEqual(wall.tidy(), 3)
        self.assertEqual(wall.tidy(), 0)


class FullDuringARound(WallCase):
    def test_a_peg_is_kept_back_for_each_note_of_the_far_half(self):
        wall = row("ab", 2)
        wall.drop(1)
        wall.begin()
        self.refused(Full, wall, "put", 1, "new", (0,))
        wall.step()
        self.refused(Full, wall, "put", 1, "new", ())

    def test_also_for_notes_that_cannot_be_reached(self):
        wall = Wall(3, 1)
        wall.put(0, "a", ())
        wall.drop(0)
        wall.begin()
        wall.put(0, "b", ())
        wall.put(0, "c", ())
        self.refused(Full, wall, "put", 0, "d", ())
        wall.tidy()
        wall.put(0, "d", ())
        self.assertEqual(wall.pegs, [None] * 3 + [note("b"), note("c"), note("d")])
        self.refused(Full, wall, "put", 0, "e", ())

    def test_none_is_kept_back_for_a_mark(self):
        wall = row("a", 2)
        wall.begin()
        self.assertEqual(wall.pegs[0], mark(2))
        wall.put(1, "b", ())
        self.assertEqual(wall.pegs[3], note("b"))
        self.refused(Full, wall, "put", 1, "c", ())

    def test_moving_a_note_takes_the_peg_kept_back_for_it(self):
        wall = row("abc", 4)
        wall.begin()
        wall.put(1, "new", ())
        self.refused(Full, wall, "put", 1, "more", ())
        self.assertIs(wall.follow(0, 0, 1), True)
        self.refused(Full, wall, "put", 1, "more", ())
        self.assertEqual(wall.tidy(), 4)
        self.assertEqual([peg[1] for peg in wall.pegs[4:]], ["c", "new", "b", "a"])

    def test_the_other_way_round(self):
        wall = row("ab", 2)
        wall.tidy()
        wall.begin()
        self.assertEqual(wall.low, 0)
        self.refused(Full, wall, "put", 1, "new", ())
        self.assertEqual(wall.tidy(), 2)
        wall.follow(0, 0, 0)
        self.assertEqual(wall.tidy(), 1)
        wall.put(1, "new", ())
        self.refused(Full, wall, "put", 1, "more", ())


class FollowingDuringARound(WallCase):
    def test_the_note_is_moved_over(self):
        wall = row("abc", 4)
        wall.begin()
        self.assertIs(wall.follow(0, 0, 1), True)
        self.assertEqual(wall.pegs, [
            note("a", None), mark(5), mark(4), None,
            note("c", 5), note("b", 0), None, None])
        self.assertEqual((wall.hooks, wall.free, wall.looked), ([4, 5], 6, 4))
        self.sound(wall)

    def test_with_one_and_the_same_hook(self):
        wall = row("abc", 4, 1)
        wall.begin()
        self.assertIs(wall.follow(0, 0, 0), True)
        self.assertEqual(wall.hooks, [5])
        self.assertEqual(wall.pegs[4:], [note("c", 5), note("b", 0), None, None])
        self.assertIs(wall.follow(0, 0, 0), True)
        self.assertEqual(wall.hooks, [6])
        self.assertEqual(wall.pegs[4:], [note("c", 5), note("b", 6), note("a", None), None])
        self.assertIs(wall.follow(0, 0, 0), False)
        self.assertEqual(wall.hooks, [None])
        self.assertEqual(wall.tidy(), 3)

    def test_only_the_thread_that_was_followed_is_changed(self):
        wall = Wall(3, 2)
        wall.put(0, "a", ())
        wall.put(0, "b", (0, 1, 0, 0))
        wall.begin()
        wall.follow(0, 2, 1)
        self.assertEqual(wall.pegs[3:], [note("b", 0, None, 4, 0), note("a"), None])

    def test_a_thread_to_a_mark(self):
        wall = three_notes()
        wall.begin()
        self.assertIs(wall.follow(0, 0, 0), True)
        self.assertEqual(wall.hooks, [5, 5])
        self.assertEqual(wall.free, 6)
        self.assertEqual(wall.pegs[4:6], [note("c", 5, 0), note("b", 0)])

    def test_a_note_that_leads_to_itself(self):
        wall = row("a", 2)
        wall.tie(0, 0, 0)
        wall.begin()
        self.assertEqual(wall.pegs, [mark(2), None, note("a", 0), None])
        self.assertIs(wall.follow(0, 0, 1), True)
        self.assertEqual(wall.pegs, [mark(2), None, note("a", 2), None])
        self.assertEqual(wall.hooks, [2, 2])

    def test_a_thread_to_the_near_half(self):
        wall = row("ab", 4)
        wall.begin()
        wall.put(1, "new", (0,))
        before = state(wall)
        self.assertIs(wall.follow(1, 0, 0), True)
        self.assertEqual(state(wall), before)

    def test_a_thread_to_no_note(self):
        wall = row("a", 2)
        wall.begin()
        pegs = list(wall.pegs)
        self.assertIs(wall.follow(0, 0, 0), False)
        self.assertEqual((wall.pegs, wall.hooks), (pegs, [None, None]))

    def test_back_from_the_second_half(self):
        wall = row("abc", 3)
        wall.tidy()
        wall.begin()
        self.assertIs(wall.follow(0, 0, 1), True)
        self.assertEqual(wall.hooks, [0, 1])
        self.assertEqual(wall.pegs, [
            note("c", 1), note("b", 5), None,
            mark(0), mark(1), note("a", None)])


class OtherDeedsDuringARound(WallCase):
    def test_tying_leads_to_the_near_half(self):
        wall = row("ab", 3)
        wall.begin()
        wall.put(1, "new", ())
        wall.tie(0, 0, 1)
        self.assertEqual(wall.pegs[3:], [note("b", 4), note("new"), None])
        self.assertEqual(wall.tidy(), 2)

    def test_tying_to_no_note_leaves_the_note_behind(self):
        wall = row("ab", 3)
        wall.begin()
        wall.tie(0, 0, 1)
        self.assertEqual(wall.pegs[:4], [note("a", None), mark(3), None, note("b", None)])
        self.assertEqual(wall.tidy(), 1)

    def test_a_note_that_was_looked_through_keeps_what_is_tied(self):
        wall = three_notes()
        wall.begin()
        wall.step()
        wall.tie(0, 1, 0)
        self.assertEqual(wall.tidy(), 3)
        self.assertEqual(wall.pegs[4:], [note("c", 5, 4), note("b", 6), note("a"), None])

    def test_dropping_and_the_word(self):
        wall = three_notes()
        wall.begin()
        before = state(wall)
        self.assertEqual([wall.word_of(0), wall.word_of(1)], ["c", "b"])
        self.assertEqual(state(wall), before)
        wall.drop(0)
        before["hooks"] = [None, 5]
        self.assertEqual(state(wall), before)

    def test_refusals(self):
        wall = three_notes()
        wall.begin()
        for k in (2, 500, -1):
            self.refused(NoThread, wall, "tie", 0, k, 1)
            self.refused(NoThread, wall, "follow", 0, k, 1)
        wall.drop(0)
        self.refused(NoNote, wall, "tie", 0, 0, 1)
        self.refused(NoNote, wall, "follow", 0, 0, 1)
        self.refused(NoNote, wall, "word_of", 0)


class Tidying(WallCase):
    def test_at_rest(self):
        wall = three_notes()
        wall.drop(0)
        self.assertEqual(wall.tidy(), 2)
        self.assertEqual(wall.pegs, [None] * 4 + [note("b", 5), note("a"), None, None])
        self.assertEqual((wall.low, wall.free, wall.hooks), (4, 6, [None, 4]))
        self.assertIs(wall.moving, False)

    def test_a_round_that_is_on_is_gone_through(self):
        for steps in range(4):
            with self.subTest(steps=steps):
                wall = three_notes()
                wall.begin()
                for again in range(steps):
                    self.assertIs(wall.step(), False)
                self.assertEqual(wall.tidy(), 3)
                self.assertEqual(wall.low, 4)
                self.assertIs(wall.moving, False)
                self.assertEqual(far_pegs(wall), [None] * 4)

    def test_again_and_again(self):
        wall = three_notes()
        for low in (4, 0, 4, 0):
            self.assertEqual(wall.tidy(), 3)
            self.assertEqual(wall.low, low)
            self.sound(wall)
        self.assertEqual(wall.pegs[:3], [note("c", 1, 2), note("b", 2), note("a")])

    def test_a_bare_wall(self):
        self.assertEqual(Wall(3, 2).tidy(), 0)

    def test_room_is_won(self):
        wall = row("abc", 3)
        self.refused(Full, wall, "put", 0, "d", ())
        wall.drop(0)
        self.assertEqual(wall.tidy(), 0)
        for word in "xyz":
            wall.put(0, word, (0,))
        self.refused(Full, wall, "put", 0, "d", ())
        self.assertEqual(wall.tidy(), 3)


if __name__ == "__main__":
    unittest.main()
