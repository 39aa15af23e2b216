"""The package's interface: a list of calls on one object, and their answers."""

from openpit.calls import answer_call
from openpit.mine import Mine

# Of each call, by its number: how many whole numbers it has, and whether a row stands behind them.
FORMS = {
    1: (0, True),
    2: (0, False),
    3: (3, False),
    4: (4, False),
    5: (3, False),
    6: (1, False),
    7: (1, True),
    8: (0, True),
    9: (3, False),
    10: (0, True),
    11: (0, False),
    12: (1, False),
    13: (4, True),
}


def split_calls(calls):
    """The calls one by one: each its number, its whole numbers, its row (empty where it has none)."""
    found = []
    place = 0
    while place < len(calls):
        form = FORMS[calls[place]]
        begin = place + 1
        end = begin + form[0]
        row = []
        behind = end
        if form[1]:
            behind = end + 1 + calls[end]
            row = calls[end + 1:behind]
        found.append((calls[place], calls[begin:end], row))
        place = behind
    return found


def answers(calls):
    """The answers to a list of calls on one new object, each behind how many numbers it has."""
    mine = Mine()
    given = []
    for call, numbers, row in split_calls(calls):
        answer = answer_call(mine, call, numbers, row)
        given.append(len(answer))
        given.extend(answer)
    return given
