"""The wall: its pegs and hooks, the deeds from the hooks, and rounds."""

from pinwall.errors import Busy, Full, NoNote, NoRound, NoThread
from pinwall.pegs import real


class Wall:
    def __init__(self, size, count):
        self.size = size
        self.pegs = [None] * (2 * size)
        self.hooks = [None] * count
        self.low = 0
        self.free = 0
        self.moving = False
        self.looked = 0

    def put(self, hook, word, others):
        left = self.low + self.size - self.free
        if left <= self.kept_back():
            raise Full("no free peg is left beside those kept back")
        # The threads are taken ahead of the hook's own change, for the hook
        # may be among the others and counts there as it led before.
        threads = tuple([self.hooks[other] for other in others])
        self.hooks[hook] = self.hang(("note", word, threads))

    def tie(self, hook, k, other):
        self.thread_of(hook, k)
        self.lead(self.hooks[hook], k, self.hooks[other])

    def drop(self, hook):
        self.hooks[hook] = None

    def follow(self, hook, k, other):
        thread = self.moved_over(self.thread_of(hook, k))
        # The thread is set ahead of the other hook, which may be the same
        # hook and then no longer leads to the note that has the thread.
        self.lead(self.hooks[hook], k, thread)
        self.hooks[other] = thread
        return thread is not None

    def word_of(self, hook):
        return self.note_of(hook)[1]

    def begin(self):
        if self.moving:
            raise Busy("a round is on already")
        self.low = self.far_low()
        self.free = self.low
        self.looked = self.low
        self.moving = True
        for hook in range(len(self.hooks)):
            self.hooks[hook] = self.moved_over(self.hooks[hook])

    def step(self):
        if not self.moving:
            raise NoRound("no round is on")
        if self.looked == self.free:
            self.clear_far()
            self.moving = False
            return True
        self.look_through(self.looked)
        self.looked += 1
        return False

    def tidy(self):
        if not self.moving:
            self.begin()
        while not self.step():
            pass
        return self.free - self.low

    def note_of(self, hook):
        number = self.hooks[hook]
        if number is None:
            raise NoNote("the hook leads to no note")
        return self.pegs[number]

    def thread_of(self, hook, k):
        threads = self.note_of(hook)[2]
        # Python would count a k below nought from the end.
        if k < 0 or k >= len(threads):
            raise NoThread("the note has no such thread")
        return threads[k]

    def lead(self, number, k, thread):
        note = self.pegs[number]
        threads = note[2][:k] + (thread,) + note[2][k + 1:]
        self.pegs[number] = ("note", note[1], threads)

    def hang(self, note):
        number = self.free
        self.pegs[number] = note
        self.free += 1
        return number

    def far_low(self):
        return self.size - self.low

    def is_far(self, number):
        return number < self.low or number >= self.low + self.size

    def kept_back(self):
        start = self.far_low()
        far = self.pegs[start:start + self.size]
        return len([peg for peg in far if peg is not None and peg[0] == "note"])

    def moved_over(self, thread):
        if thread is None or not self.is_far(thread):
            return thread
        if real(self.pegs, thread) == thread:
            self.pegs[thread] = ("moved", self.hang(self.pegs[thread]))
        return real(self.pegs, thread)

    def look_through(self, number):
        note = self.pegs[number]
        threads = []
        for thread in note[2]:
            threads.append(self.moved_over(thread))
        self.pegs[number] = ("note", note[1], tuple(threads))

    def clear_far(self):
        start = self.far_low()
        for number in range(start, start + self.size):
            self.pegs[number] = None
