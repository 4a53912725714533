"""Deeds as tuples, done at a wall one after the other."""

from pinwall.errors import WallError
from pinwall.seeing import seen
from pinwall.wall import Wall


def done(wall, deed):
    try:
        return answer_to(wall, deed)
    except WallError:
        return None


def answer_to(wall, deed):
    kind = deed[0]
    if kind == "put":
        wall.put(deed[1], deed[2], deed[3])
        return True
    if kind == "tie":
        wall.tie(deed[1], deed[2], deed[3])
        return True
    if kind == "follow":
        return wall.follow(deed[1], deed[2], deed[3])
    if kind == "drop":
        wall.drop(deed[1])
        return True
    if kind == "word":
        return wall.word_of(deed[1])
    if kind == "begin":
        wall.begin()
        return True
    if kind == "step":
        return wall.step()
    if kind == "tidy":
        return wall.tidy()
    # No other deed is handed in; were there one, it would change nothing.
    return None


def answers(size, count, deeds):
    wall = Wall(size, count)
    told = []
    for deed in deeds:
        told.append(done(wall, deed))
    return told


def view_after(size, count, deeds):
    wall = Wall(size, count)
    for deed in deeds:
        done(wall, deed)
    return seen(wall.pegs, wall.hooks)
