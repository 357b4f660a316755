"""Lays calls into the one list that is handed in, and parts the answers."""

from jurypick.picking import answers

FARTHEST = (-2147483648, 2147483647)
NOW = [9]
BOX = [10]
FATES = [11]


def begin(panel=10, seats=3, alternates=1, strikes0=2, strikes1=2,
          for_alternates=1, uses_up=0, turns=(0, 1)):
    return [1, panel, seats, alternates, strikes0, strikes1, for_alternates,
            uses_up, len(turns)] + list(turns)


def excuse(who):
    return [2, who]


def strike(side, who):
    return [3, side, who]


def passes(side):
    return [4, side]


def objects(side, upheld):
    return [5, side, upheld]


def let(who):
    return [6, who]


def agree(least):
    return [7, least]


def verdict(*says):
    return [8, len(says)] + list(says)


def sworn(**others):
    """The jury is 0, 1, 2; the alternates are 3, 4, .., as many as are asked for."""
    return begin(**{"strikes0": 0, "strikes1": 0, "for_alternates": 0, **others})


# Calls that lead to phase 0, 1, .., 4.
IN_PHASE = (
    [begin()],
    [begin(strikes0=0, strikes1=0)],
    [sworn()],
    [begin(panel=2)],
    [sworn(alternates=0), let(0)],
)


def parted(numbers):
    parts = []
    at = 0
    while at < len(numbers):
        many = numbers[at]
        parts.append(numbers[at + 1:at + 1 + many])
        at += 1 + many
    return parts


def ask(*calls):
    """The answer to each call, a list each."""
    return parted(answers([number for call in calls for number in call]))


def last(*calls):
    """The answer to the last call alone."""
    return ask(*calls)[-1]
