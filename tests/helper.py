"""What the tests share: the calls by their names, and the answers call by call."""

from culverts.roads import answers

NONE_SUCH = [-2]
NOT_BEGUN = [-11]
ALREADY_SO = [-17]
OUT_OF_RANGE = [-22]
TOO_MANY = [-28]
CANNOT_BE = [-33]

GREATEST = 4294967295
GREATEST_IN_ROW = 65535


def begin(n):
    return [0, n]


def low(x, y, q=1):
    return [1, x, y, q]


def drop(i):
    return [2, i]


def water(i, q):
    return [3, i, q]


def rock(s):
    return [4, s]


def norock(s):
    return [5, s]


def price(s, c):
    return [6, s, c]


def hits(*row):
    return [11, len(row)] + list(row)


FEWEST = [7]
APART = [8]
CHEAPEST = [9]
PAYS = [10]

LOOKS = [FEWEST, APART, CHEAPEST, PAYS]


def split(told):
    """One list for each call, from what is given back."""
    found = []
    place = 0
    while place < len(told):
        behind = place + 1 + told[place]
        if told[place] < 1 or behind > len(told):
            raise ValueError(f"no answer at {place} in {told}")
        found.append(told[place + 1:behind])
        place = behind
    return found


def ask(*calls):
    """The answers to some calls on a new object, one list for each."""
    line = []
    for call in calls:
        line.extend(call)
    found = split(answers(line))
    if len(found) != len(calls):
        raise ValueError(f"{len(found)} answers to {len(calls)} calls")
    return found


def last(*calls):
    return ask(*calls)[-1]


def reveal(*calls):
    """All that can be found out of the object behind some calls, each thing on a line of its own.

    Two lists of calls leave the same object just if this is the same of both.
    """
    stations = range(13)
    numbers = range(8)
    waters = ask(*calls, *[water(i, 1) for i in numbers])[len(calls):]
    count = len([found for found in waters if found != NONE_SUCH])
    found = [
        waters,
        ask(*calls, *LOOKS)[len(calls):],
        ask(*calls, *[rock(s) for s in stations])[len(calls):],
        ask(*calls, *[price(s, 1) for s in stations])[len(calls):],
    ]
    for i in range(count):
        alone = [drop(other) for other in reversed(range(count)) if other != i]
        bare = alone + [norock(s) for s in stations]
        found.append(ask(*calls, *bare, *[hits(s) for s in stations])[len(calls):])
    return found
