"""Long rows of deeds beside a wall on which nothing is ever moved (points 1, 13, 15)."""

import random
import unittest

from pinwall.errors import Busy, Full, NoNote, NoRound, NoThread, WallError
from pinwall.wall import Wall
from tests.helper import WallCase, far_pegs, is_note, size_of, state


class Sheet:
    """A note that lies on no peg."""

    def __init__(self, word, threads):
        self.word = word
        self.threads = threads


class Plain:
    """Hooks and sheets alone; it knows of rounds only whether one is on."""

    def __init__(self, count):
        self.hooks = [None] * count
        self.moving = False

    def sheet(self, hook):
        if self.hooks[hook] is None:
            raise NoNote
        return self.hooks[hook]

    def sheet_with(self, hook, k):
        sheet = self.sheet(hook)
        if k not in range(len(sheet.threads)):
            raise NoThread
        return sheet

    def put(self, hook, word, others):
        self.hooks[hook] = Sheet(word, [self.hooks[other] for other in others])

    def tie(self, hook, k, other):
        self.sheet_with(hook, k).threads[k] = self.hooks[other]

    def follow(self, hook, k, other):
        self.hooks[other] = self.sheet_with(hook, k).threads[k]
        return self.hooks[other] is not None

    def drop(self, hook):
        self.hooks[hook] = None

    def word_of(self, hook):
        return self.sheet(hook).word

    def begin(self):
        if self.moving:
            raise Busy
        self.moving = True

    def met(self):
        return in_order(self.hooks, lambda sheet: sheet.threads)

    def look(self):
        order = self.met()
        return numbered(self.hooks, order, [(sheet.word, sheet.threads) for sheet in order])


def in_order(hooks, threads_of):
    order = []
    rows = [hooks]
    while rows:
        for thing in rows.pop(0):
            if thing is not None and thing not in order:
                order.append(thing)
                rows.append(threads_of(thing))
    return order


def numbered(hooks, order, notes):
    def number(thing):
        return None if thing is None else order.index(thing)

    return ([number(thing) for thing in hooks],
            [(word, [number(thing) for thing in threads]) for word, threads in notes])


def looked_at(wall):
    """The same for a wall, marks seen through."""
    def found(thread):
        if thread is not None and wall.pegs[thread][0] == "moved":
            return wall.pegs[thread][1]
        return thread

    def threads_of(number):
        return [found(thread) for thread in wall.pegs[number][2]]

    hooks = [found(thread) for thread in wall.hooks]
    order = in_order(hooks, threads_of)
    return numbered(hooks, order, [(wall.pegs[number][1], threads_of(number)) for number in order])


def room(wall):
    return wall.low + size_of(wall) - wall.free - sum(is_note(peg) for peg in far_pegs(wall))


def outcome(thing, name, told):
    try:
        return (None, getattr(thing, name)(*told))
    except WallError as error:
        return (type(error), None)


class Walks(WallCase):
    def some_deed(self, chance, count, serial):
        hook = chance.randrange(count)
        other = chance.randrange(count)
        k = chance.choice((0, 0, 0, 1, 1, 2, 3, 40))
        name = chance.choice(self.names)
        if name == "put":
            others = tuple(chance.randrange(count) for again in range(chance.randrange(4)))
            return (name, (hook, f"w{serial}", others))
        if name in ("tie", "follow"):
            return (name, (hook, k, other))
        if name in ("drop", "word_of"):
            return (name, (hook,))
        return (name, ())

    names = ("put",) * 6 + ("tie",) * 3 + ("follow",) * 5 + ("step",) * 5 + (
        "drop", "word_of", "begin", "begin", "tidy")

    def walk(self, seed, size, count, deeds):
        chance = random.Random(seed)
        wall, plain = Wall(size, count), Plain(count)
        fresh = set()
        for serial in range(deeds):
            name, told = self.some_deed(chance, count, serial)
            before = state(wall)
            if name == "put" and room(wall) < 1:
                self.refused(Full, wall, name, *told)
            elif name in ("step", "tidy"):
                self.go_on(wall, plain, name, fresh)
            else:
                got = outcome(wall, name, told)
                self.assertEqual(got, outcome(plain, name, told))
                if got[0] is not None or name == "word_of":
                    self.assertEqual(state(wall), before)
                elif name == "begin":
                    fresh = {sheet.word for sheet in plain.met()}
                elif name == "put":
                    fresh.add(told[1])
            self.sound(wall)
            self.assertEqual(wall.moving, plain.moving)
            self.assertEqual(looked_at(wall), plain.look())

    def go_on(self, wall, plain, name, fresh):
        if not plain.moving and name == "step":
            self.refused(NoRound, wall, "step")
            return
        if not plain.moving:
            fresh.clear()
            fresh.update(sheet.word for sheet in plain.met())
        ends = name == "tidy" or wall.looked == wall.free
        answer = getattr(wall, name)()
        plain.moving = not ends
        if ends:
            words = {peg[1] for peg in wall.pegs if is_note(peg)}
            self.assertLessEqual({sheet.word for sheet in plain.met()}, words)
            self.assertLessEqual(words, fresh)
        if name == "tidy":
            self.assertEqual(answer, sum(is_note(peg) for peg in wall.pegs))
        else:
            self.assertIs(answer, ends)

    def test_walls_of_many_sizes(self):
        for seed in range(120):
            size = (1, 2, 3, 4, 6, 9, 15, 30)[seed % 8]
            count = (1, 2, 3, 5)[seed % 4]
            with self.subTest(seed=seed, size=size, count=count):
                self.walk(seed, size, count, 200)

    def test_a_large_wall(self):
        self.walk(1000, 200, 20, 400)

    def test_undisturbed_rounds(self):
        for seed in range(60):
            chance = random.Random(seed)
            wall = Wall(12, 3)
            for serial in range(60):
                name, told = self.some_deed(chance, 3, serial)
                outcome(wall, name, told)
            if wall.moving:
                wall.tidy()
            view = looked_at(wall)
            wall.begin()
            steps = 1
            while not wall.step():
                steps += 1
                self.assertEqual(looked_at(wall), view)
            with self.subTest(seed=seed):
                self.assertEqual(looked_at(wall), view)
                self.assertEqual(steps, len(view[1]) + 1)
                self.assertEqual(wall.free - wall.low, len(view[1]))


if __name__ == "__main__":
    unittest.main()
