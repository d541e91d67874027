"""What the tests ask with: each call as it is handed in, and the answers taken apart."""

from newranks.ranks import answers

LARGEST = 4294967295

best = [3, 0, 0]
fair = [4, 0, 0]
plain = [5, 0, 0]


def begins(worth):
    return [0, 1, worth, 0]


def wrestler(won, lost):
    return [1, 2, won, lost, 0]


def check(*new_list):
    return [2, len(new_list), *new_list, 0]


def line(*calls):
    return [number for call in calls for number in call]


def split(told):
    """Take the given list apart: one list of numbers for each answer."""
    parts = []
    at = 0
    while at < len(told):
        behind = at + 1 + told[at]
        if told[at] < 1 or behind > len(told):
            raise AssertionError(f"no count of an answer's numbers stands at {at}: {told}")
        parts.append(told[at + 1:behind])
        at = behind
    return parts


def ask(*calls):
    """Give the answers to the calls, each as a list."""
    return split(answers(line(*calls)))


def last(*calls):
    return ask(*calls)[-1]


def listed(worth, bouts):
    """Give the calls that tell a list: what a win more is worth, then won and lost of each wrestler."""
    return [begins(worth), *[wrestler(won, lost) for won, lost in bouts]]
