"""What hangs on pegs, read without a wall."""


def real(pegs, number):
    # One look is enough: a note that has been moved is not moved a second
    # time, so a mark never tells the peg of another mark.
    if pegs[number][0] == "moved":
        return pegs[number][1]
    return number
