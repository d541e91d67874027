"""The calls about one list of wrestlers: read from whole numbers, answered in whole numbers."""

from newranks.wrestlers import CannotBe, NoRoom, NotAllowed, Tournament

BEGINS = 0
WRESTLER = 1
CHECK = 2
BEST = 3
FAIR = 4
PLAIN = 5


class NoSuchCall(Exception):
    """A number stands where a call should begin, but no call has it."""


def answers(calls):
    """Give for each call, in order, how many numbers are answered, then these."""
    tournament = Tournament()
    told = []
    for number, given in read_calls(calls):
        answer = answer_one(tournament, number, given)
        told.append(len(answer))
        told.extend(answer)
    return told


def read_calls(calls):
    """Give each call as a tuple: its number, and a list of the whole numbers it has."""
    read = []
    at = 0
    while at < len(calls):
        first = at + 2
        behind = first + calls[at + 1]
        read.append((calls[at], calls[first:behind]))
        # Behind the whole numbers stands how many lists there are: 0, no call has any.
        at = behind + 1
    return read


def answer_one(tournament, number, given):
    """Give the numbers that are answered to one call, those of a refusal too."""
    try:
        return carry_out(tournament, number, given)
    except NotAllowed:
        return [-1]
    except NoRoom:
        return [-5]
    except CannotBe as refusal:
        return [-6, refusal.who]


def carry_out(tournament, number, given):
    """Give the numbers that are answered to one call that isn't refused."""
    if number == BEGINS:
        tournament.begins(given[0])
        return [0]
    if number == WRESTLER:
        return [tournament.wrestler(given[0], given[1])]
    if number == CHECK:
        return tournament.check(given)
    if number == BEST:
        return tournament.best()
    if number == FAIR:
        return tournament.fair()
    if number == PLAIN:
        return tournament.plain()
    raise NoSuchCall(f"no call has the number {number}")
