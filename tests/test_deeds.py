"""Points 4 to 7: deeds from the hooks, where no round is on."""

import unittest

from pinwall.errors import Full, NoNote, NoThread
from pinwall.wall import Wall
from tests.helper import WallCase, note, state, three_notes


class Putting(WallCase):
    def test_the_free_peg_with_the_least_number(self):
        wall = Wall(3, 2)
        for number, word in enumerate(("a", "b", "c")):
            wall.put(1, word, ())
            self.assertEqual(wall.pegs[number], note(word))
            self.assertEqual(wall.hooks, [None, number])
            self.assertEqual(wall.free, number + 1)
            self.sound(wall)

    def test_pegs_of_dropped_notes_are_not_free(self):
        wall = Wall(3, 1)
        wall.put(0, "a", ())
        wall.drop(0)
        wall.put(0, "b", ())
        self.assertEqual(wall.pegs[:3], [note("a"), note("b"), None])

    def test_threads_lead_where_the_hooks_lead_in_their_order(self):
        wall = Wall(4, 4)
        wall.put(0, "a", ())
        wall.put(1, "b", ())
        wall.put(3, "c", (1, 2, 0, 1))
        self.assertEqual(wall.pegs[2], note("c", 1, None, 0, 1))
        self.assertEqual(wall.hooks, [0, 1, None, 2])

    def test_the_first_hook_as_it_led_before(self):
        wall = Wall(3, 2)
        wall.put(0, "a", (0, 1))
        self.assertEqual(wall.pegs[0], note("a", None, None))
        wall.put(0, "b", (0, 0, 1))
        self.assertEqual(wall.pegs[1], note("b", 0, 0, None))
        self.assertEqual(wall.hooks, [1, None])

    def test_threads_are_fixed_when_the_note_is_put_up(self):
        wall = Wall(3, 2)
        wall.put(0, "a", ())
        wall.put(1, "b", (0,))
        wall.drop(0)
        self.assertEqual(wall.pegs[1], note("b", 0))

    def test_up_to_twenty_threads_and_beyond(self):
        for many in (0, 1, 20, 25):
            with self.subTest(many=many):
                wall = Wall(2, 2)
                wall.put(0, "a", ())
                wall.put(1, "b", (0,) * many)
                self.assertEqual(wall.pegs[1], ("note", "b", (0,) * many))

    def test_any_word(self):
        for word in ("", "a", "two words", "-", "\u00fc\n", "x" * 1000):
            with self.subTest(word=word):
                wall = Wall(1, 1)
                wall.put(0, word, ())
                self.assertEqual(wall.pegs[0], note(word))
                self.assertEqual(wall.word_of(0), word)

    def test_full_half_at_rest(self):
        wall = Wall(2, 2)
        wall.put(0, "a", ())
        wall.put(0, "b", (0,))
        self.refused(Full, wall, "put", 0, "c", ())
        self.refused(Full, wall, "put", 1, "c", (0, 1))
        wall.drop(0)
        self.refused(Full, wall, "put", 0, "c", ())

    def test_the_whole_near_half_is_there_to_be_used(self):
        for size in (1, 2, 200, 220):
            with self.subTest(size=size):
                wall = Wall(size, 1)
                for number in range(size):
                    wall.put(0, str(number), (0,))
                self.assertEqual(wall.free, size)
                self.assertEqual(wall.pegs[size:], [None] * size)
                self.refused(Full, wall, "put", 0, "", ())

    def test_others_are_neither_changed_nor_kept(self):
        wall = Wall(3, 2)
        others = [0, 1]
        wall.put(0, "a", others)
        self.assertEqual(others, [0, 1])
        kept = state(wall)
        others.append(0)
        self.assertEqual(state(wall), kept)
        self.assertEqual(wall.pegs[0], note("a", None, None))


class Tying(WallCase):
    def test_the_thread_leads_where_the_other_hook_leads(self):
        wall = three_notes()
        wall.put(1, "d", ())
        wall.tie(0, 1, 1)
        self.assertEqual(wall.pegs[:4], [note("a"), note("b", 0), note("c", 1, 3), note("d")])
        self.assertEqual(wall.hooks, [2, 3])
        self.sound(wall)

    def test_first_middle_and_last_thread(self):
        for k, threads in ((0, (1, 0, 0)), (1, (0, 1, 0)), (2, (0, 0, 1))):
            with self.subTest(k=k):
                wall = Wall(3, 2)
                wall.put(0, "a", ())
                wall.put(0, "b", (0, 0, 0))
                wall.tie(0, k, 0)
                self.assertEqual(wall.pegs[1], ("note", "b", threads))

    def test_one_and_the_same_hook(self):
        wall = three_notes()
        wall.tie(0, 0, 0)
        self.assertEqual(wall.pegs[2], note("c", 2, 0))
        self.assertEqual(wall.hooks, [2, 1])

    def test_to_no_note_and_back(self):
        wall = three_notes()
        wall.drop(1)
        wall.tie(0, 1, 1)
        self.assertEqual(wall.pegs[2], note("c", 1, None))
        wall.tie(0, 1, 0)
        self.assertEqual(wall.pegs[2], note("c", 1, 2))

    def test_two_hooks_at_one_note(self):
        wall = three_notes()
        wall.follow(0, 0, 0)
        wall.tie(0, 0, 1)
        self.assertEqual(wall.hooks, [1, 1])
        self.assertEqual(wall.pegs[1], note("b", 1))

    def test_a_hook_without_note(self):
        wall = three_notes()
        wall.drop(0)
        for k in (0, 1, 99):
            self.refused(NoNote, wall, "tie", 0, k, 1)
            self.refused(NoNote, wall, "tie", 0, k, 0)

    def test_no_such_thread(self):
        wall = three_notes()
        for k in (2, 3, 20, 10 ** 30, -1, -2):
            self.refused(NoThread, wall, "tie", 0, k, 1)
        wall.put(0, "d", ())
        self.refused(NoThread, wall, "tie", 0, 0, 0)


class Following(WallCase):
    def test_the_other_hook_leads_where_the_thread_leads(self):
        wall = three_notes()
        pegs = list(wall.pegs)
        self.assertIs(wall.follow(0, 1, 1), True)
        self.assertEqual(wall.hooks, [2, 0])
        self.assertEqual(wall.pegs, pegs)

    def test_one_and_the_same_hook(self):
        wall = three_notes()
        pegs = list(wall.pegs)
        self.assertIs(wall.follow(0, 0, 0), True)
        self.assertEqual(wall.hooks, [1, 1])
        self.assertEqual(wall.pegs, pegs)

    def test_a_thread_to_peg_nought_leads_to_a_note(self):
        wall = three_notes()
        self.assertIs(wall.follow(1, 0, 1), True)
        self.assertEqual(wall.hooks, [2, 0])

    def test_a_thread_to_no_note(self):
        wall = Wall(3, 2)
        wall.put(0, "a", (1,))
        wall.put(1, "b", ())
        self.assertIs(wall.follow(0, 0, 1), False)
        self.assertEqual(wall.hooks, [0, None])
        self.assertIs(wall.follow(0, 0, 0), False)
        self.assertEqual(wall.hooks, [None, None])

    def test_a_hook_without_note(self):
        wall = three_notes()
        wall.drop(1)
        self.refused(NoNote, wall, "follow", 1, 0, 0)
        self.refused(NoNote, wall, "follow", 1, 7, 1)

    def test_no_such_thread(self):
        wall = three_notes()
        for k in (2, 3, 20, 10 ** 30, -1, -2):
            self.refused(NoThread, wall, "follow", 0, k, 1)
            self.refused(NoThread, wall, "follow", 0, k, 0)


class Dropping(WallCase):
    def test_the_hook_leads_to_no_note(self):
        wall = three_notes()
        pegs = list(wall.pegs)
        wall.drop(0)
        self.assertEqual(wall.hooks, [None, 1])
        self.assertEqual((wall.pegs, wall.free), (pegs, 3))

    def test_a_hook_without_note(self):
        wall = three_notes()
        wall.drop(1)
        before = state(wall)
        wall.drop(1)
        self.assertEqual(state(wall), before)

    def test_another_hook_at_the_same_note_stays(self):
        wall = three_notes()
        wall.follow(0, 0, 0)
        wall.drop(0)
        self.assertEqual(wall.hooks, [None, 1])


class AskingTheWord(WallCase):
    def test_the_word_and_no_change(self):
        wall = three_notes()
        before = state(wall)
        self.assertEqual([wall.word_of(0), wall.word_of(1)], ["c", "b"])
        self.assertEqual(state(wall), before)

    def test_a_hook_without_note(self):
        wall = three_notes()
        wall.drop(0)
        self.refused(NoNote, wall, "word_of", 0)


if __name__ == "__main__":
    unittest.main()
