"""Points 18 and 19: views as lines."""

import copy
import itertools
import random
import re
import unittest

from pinwall.errors import NoView, WallError
from pinwall.lines import read, shown
from pinwall.seeing import built, seen
from pinwall.story import view_after
from tests.helper import three_notes

# Views beside the lines that they are written as.
PAIRS = (
    (([], []), [""]),
    (([None], []), ["-"]),
    (([None, None, None], []), ["- - -"]),
    (([0], [("a", [])]), ["0", "a"]),
    (([], [("a", [])]), ["", "a"]),
    (([], [("a", []), ("zebra", [None])]), ["", "a", "zebra -"]),
    (([0, None, 1], [("milk", [1, None, 0]), ("list", [])]), ["0 - 1", "milk 1 - 0", "list"]),
    (([1, 1], [("a", [0]), ("a", [1, 1])]), ["1 1", "a 0", "a 1 1"]),
    (([2], [("abcdefghijklmnopqrstuvwxyz", [2]), ("z", []), ("y", [0])]),
     ["2", "abcdefghijklmnopqrstuvwxyz 2", "z", "y 0"]),
)


def longer(many):
    """A view with a note for each number, and its lines."""
    numbers = list(range(many))
    return ((numbers, [("w", [many - 1 - k, None]) for k in numbers]),
            [" ".join(str(k) for k in numbers)] + [f"w {many - 1 - k} -" for k in numbers])


class Shown(unittest.TestCase):
    def test_views(self):
        for view, lines in PAIRS:
            with self.subTest(view=view):
                got = shown(view)
                self.assertEqual(got, lines)
                self.assertIs(type(got), list)

    def test_numbers_of_several_figures(self):
        for many in (10, 11, 12, 101, 250):
            view, lines = longer(many)
            self.assertEqual(shown(view), lines)

    def test_what_is_seen_of_a_wall(self):
        wall = three_notes()
        wall.begin()
        self.assertEqual(shown(seen(wall.pegs, wall.hooks)), ["0 1", "c 1 2", "b 2", "a"])

    def test_the_view_is_as_it_was_and_not_kept(self):
        for view, lines in PAIRS:
            handed = copy.deepcopy(view)
            got = shown(handed)
            self.assertEqual(handed, view)
            handed[0].append(None)
            handed[1].append(("more", []))
            self.assertEqual(got, lines)
            got.append("more")
            self.assertEqual(shown(view), lines)


class Read(unittest.TestCase):
    def refused(self, lines):
        with self.subTest(lines=lines):
            before = list(lines)
            with self.assertRaises(NoView) as caught:
                read(lines)
            self.assertIs(type(caught.exception), NoView)
            self.assertIsInstance(caught.exception, WallError)
            self.assertEqual(lines, before)

    def test_views(self):
        for view, lines in PAIRS:
            with self.subTest(lines=lines):
                self.assertEqual(read(lines), view)

    def test_the_form(self):
        view = read(["0 -", "a - 0"])
        self.assertEqual(view, ([0, None], [("a", [None, 0])]))
        self.assertIs(type(view), tuple)
        self.assertEqual([type(part) for part in view], [list, list])
        self.assertEqual([type(part) for part in view[1][0]], [str, list])
        self.assertIs(type(view[1][0]), tuple)
        self.assertEqual([type(view[0][0]), type(view[1][0][1][1])], [int, int])

    def test_numbers_of_several_figures(self):
        for many in (10, 11, 12, 101, 250):
            view, lines = longer(many)
            self.assertEqual(read(lines), view)

    def test_numbered_in_another_way_or_out_of_reach(self):
        self.assertEqual(read(["1", "a", "b"]), ([1], [("a", []), ("b", [])]))
        self.assertEqual(read(["-", "a 1", "b 0"]), ([None], [("a", [1]), ("b", [0])]))

    def test_no_lines(self):
        self.refused([])

    def test_other_blanks(self):
        for line in (" ", "  ", " 0", "0 ", "0  0", " -", "- ", "-  -", "0\t0", "0\n", "\n", "\n0", "0\r", "0\u00a00",
                     "0\u2003-", "\t", "0,0", "0 - "):
            self.refused([line, "a"])
        for line in (" ", "  ", " a", "a ", "a  0", "a 0 ", "a 0  0", " a 0", "a\t0", "a\n", "\na", "a\r", "a 0\n",
                     "a\u00a00", "a \t0", "a,0", "a 0 \n"):
            self.refused(["0", line])

    def test_an_empty_line_of_a_note(self):
        self.refused(["", ""])
        self.refused(["0", ""])
        self.refused(["0", "a", ""])
        self.refused(["0", "", "a"])
        self.refused(["-", "a", "", "b"])

    def test_other_words(self):
        for word in ("A", "aB", "Z", "a1", "1a", "a-", "-a", "-", "0", "_", "a_b", "a.", "a'b", "\u00e4", "a\u00e9",
                     "\u03b1", "\u0430", "\uff41", "`", "{", "@", "[", "\u00aa", "a\u0301", "\x00"):
            self.refused(["0", word])
            self.refused(["0", word + " 0"])
            self.refused(["0", "b 0", word])

    def test_other_numbers(self):
        for number in ("00", "01", "000", "-0", "+0", "-1", "+1", "--", "0-", "1.0", "0.", "0x0", "0_0", "1_0", "1e0",
                       "\u0660", "\u00b2", "\uff10", "None", "True", "o", "", "?"):
            self.refused([number + " 0", "a", "b"])
            self.refused(["0 " + number, "a", "b"])
            self.refused(["0", "a " + number, "b"])
            self.refused(["0", "a", "b 0 " + number])

    def test_a_nought_ahead_of_a_number_that_is_there(self):
        view, lines = longer(12)
        self.assertEqual(read(lines), view)
        for number in ("01", "011", "00", "+11", "-11", "1 1 ", "12", "-1"):
            self.refused([number] + lines[1:])
            self.refused(lines[:-1] + ["w " + number])

    def test_numbers_too_large(self):
        self.refused(["0"])
        self.refused(["1"])
        self.refused(["- 0"])
        self.refused(["1", "a"])
        self.refused(["0 1", "a"])
        self.refused(["0", "a 1"])
        self.refused(["0", "a 0", "b 0 2"])
        self.refused(["2", "a 0", "b"])
        self.refused(["0", "a 10", "b 1"])
        for many in (1, 9, 10, 11, 100):
            view, lines = longer(many)
            self.refused([str(many)] + lines[1:])
            self.refused(lines[:-1] + [f"w {many}"])
            self.assertEqual(read([str(many - 1)] + lines[1:]), ([many - 1], view[1]))

    def test_very_many_figures(self):
        for many in (20, 1000, 5000, 20000):
            self.refused(["9" * many, "a"])
            self.refused(["0", "a " + "1" * many])
            self.refused(["0" * many, "a"])

    def test_a_number_where_a_word_is_asked_and_the_other_way_round(self):
        self.refused(["0", "0"])
        self.refused(["0", "0 a"])
        self.refused(["0", "- 0"])
        self.refused(["0", "a a"])
        self.refused(["0", "a 0 a"])
        self.refused(["a", "a"])
        self.refused(["a"])
        self.refused(["a 0", "a"])
        self.refused(["0 a", "a"])

    def test_one_wrong_line_among_many(self):
        view, lines = longer(30)
        for k in range(1, len(lines)):
            for wrong in ("", "W", "w  0", "w 30", "w 0 ", "7"):
                self.refused(lines[:k] + [wrong] + lines[k + 1:])

    def test_beyond_the_bounds(self):
        many = 300
        view = ([k for k in range(40)], [("w" * 300, [k] * 40) for k in range(many)])
        self.assertEqual(read(shown(view)), view)

    def test_the_lines_are_as_they_were_and_not_kept(self):
        for view, lines in PAIRS:
            handed = list(lines)
            got = read(handed)
            self.assertEqual(handed, lines)
            handed.append("more")
            handed[0] = "?"
            self.assertEqual(got, view)

    def test_each_reading_gives_a_new_view(self):
        first = read(["0", "a 0"])
        first[0][0] = 9
        first[1][0][1].append(9)
        first[1].append("more")
        self.assertEqual(read(["0", "a 0"]), ([0], [("a", [0])]))


def plainly_read(lines):
    """A view by the words of points 18 and 19 alone, or None."""
    number = "(?:-|0|[1-9][0-9]*)"
    if not lines or not re.fullmatch(f"(?:{number}(?: {number})*)?", lines[0]):
        return None
    if not all(re.fullmatch(f"[a-z]+(?: {number})*", line) for line in lines[1:]):
        return None

    def numbers(text):
        return [None if part == "-" else int(part) for part in text.split()]

    notes = [(line.partition(" ")[0], numbers(line.partition(" ")[2])) for line in lines[1:]]
    told = numbers(lines[0]) + [one for word, row in notes for one in row]
    if any(one is not None and one >= len(lines) - 1 for one in told):
        return None
    return (numbers(lines[0]), notes)


class AllShortLines(unittest.TestCase):
    def held(self, lines):
        wanted = plainly_read(lines)
        if wanted is None:
            self.assertRaises(NoView, read, lines)
        else:
            self.assertEqual(read(lines), wanted)
            self.assertEqual(shown(wanted), lines)

    def texts(self, signs, longest):
        for many in range(longest + 1):
            for text in itertools.product(signs, repeat=many):
                yield "".join(text)

    def test_lines_of_the_hooks(self):
        for text in self.texts("012- a\n", 4):
            self.held([text])
            self.held([text, "x"])
            self.held([text, "x", "y 0"])

    def test_lines_of_a_note(self):
        for text in self.texts("01- az\n", 5):
            self.held(["", text])
        for text in self.texts("02- z", 4):
            self.held(["0", "x 1", text])

    def test_figures(self):
        notes = ["x"] * 12
        for text in self.texts("0123456789-+", 3):
            self.held([text] + notes)
            self.held(["0"] + notes[1:] + ["x " + text])

    def test_letters(self):
        for code in range(0x250):
            self.held(["0", "a" + chr(code)])
            self.held(["0", chr(code) + "a"])
            self.held(["0", chr(code)])


class ThereAndBack(unittest.TestCase):
    def test_views_by_chance(self):
        for seed in range(300):
            chance = random.Random(f"lines {seed}")
            many = chance.choice((0, 1, 2, 5, 12, 120))
            numbers = [None] + list(range(many))
            view = ([chance.choice(numbers) for hook in range(chance.randrange(6))],
                    [("".join(chance.choices("abcxyz", k=chance.randrange(1, 5))),
                      [chance.choice(numbers) for thread in range(chance.randrange(5))]) for k in range(many)])
            with self.subTest(seed=seed):
                self.assertEqual(read(shown(view)), view)
                self.assertEqual(plainly_read(shown(view)), view)

    def test_from_a_day_to_lines_to_a_wall(self):
        deeds = [("put", 0, "milk", ()), ("put", 1, "list", (0, 1, 0)), ("begin",), ("put", 0, "more", (1,)),
                 ("tie", 1, 1, 0), ("follow", 1, 2, 2)]
        view = view_after(4, 3, deeds)
        lines = ["0 1 2", "more 1", "list 2 0 2", "milk"]
        self.assertEqual(shown(view), lines)
        wall = built(3, read(lines))
        self.assertEqual(shown(seen(wall.pegs, wall.hooks)), lines)


if __name__ == "__main__":
    unittest.main()
