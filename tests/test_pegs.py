"""Points 2 and 9, and the interface, pinwall/pegs.py."""

import copy
import unittest

from pinwall.pegs import real
from tests.helper import mark, note


class Real(unittest.TestCase):
    def test_a_note_hangs_on_its_own_peg(self):
        pegs = [note("a"), note("b", 0, None), None, None]
        self.assertEqual([real(pegs, 0), real(pegs, 1)], [0, 1])

    def test_a_mark_tells_the_peg(self):
        pegs = [mark(3), mark(2), note("b", 0), note("a")]
        self.assertEqual([real(pegs, number) for number in range(4)], [3, 2, 2, 3])

    def test_a_mark_tells_peg_nought(self):
        self.assertEqual(real([note("a"), mark(0)], 1), 0)

    def test_words_of_notes_mean_nothing(self):
        pegs = [note("moved", 1), note("", 0), note("note")]
        self.assertEqual([real(pegs, number) for number in range(3)], [0, 1, 2])

    def test_any_number_of_pegs(self):
        self.assertEqual(real([note("a")], 0), 0)
        self.assertEqual(real([mark(2), None, note("a")], 0), 2)
        for length in (3, 7, 200, 1001):
            pegs = [mark(length - 1)] * (length - 1) + [note("a")]
            with self.subTest(length=length):
                self.assertEqual({real(pegs, number) for number in range(length)}, {length - 1})

    def test_nothing_is_changed(self):
        pegs = [mark(2), None, note("a", 0, None), note("b")]
        before = copy.deepcopy(pegs)
        for number in (0, 2, 3):
            real(pegs, number)
        self.assertEqual(pegs, before)


if __name__ == "__main__":
    unittest.main()
