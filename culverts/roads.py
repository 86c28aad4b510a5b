"""The calls on one road, read from a list of numbers and answered as one."""

from culverts.choices import (
    apart_numbers,
    are_culverts,
    fewest_row,
    least_row,
    payments,
    some_do,
    they_do,
)
from culverts.ground import Ground
from culverts.refusals import CANNOT_BE, NOT_BEGUN, OUT_OF_RANGE

BEGIN = 0


class Call:
    """A call's number, whole numbers and row, and the place behind it in the list."""

    def __init__(self, number, numbers, row, behind):
        self.number = number
        self.numbers = numbers
        self.row = row
        self.behind = behind


def begin(ground, numbers, row):
    return [ground.begin(numbers[0])]


def low(ground, numbers, row):
    return [ground.low(numbers[0], numbers[1], numbers[2])]


def drop(ground, numbers, row):
    return [ground.drop(numbers[0])]


def water(ground, numbers, row):
    return [ground.water(numbers[0], numbers[1])]


def rock(ground, numbers, row):
    return [ground.set_rock(numbers[0], True)]


def norock(ground, numbers, row):
    return [ground.set_rock(numbers[0], False)]


def price(ground, numbers, row):
    return [ground.price(numbers[0], numbers[1])]


def fewest(ground, numbers, row):
    found = fewest_row(ground)
    if found is None:
        return [CANNOT_BE]
    return [len(found)] + found


def apart(ground, numbers, row):
    if not some_do(ground):
        return [CANNOT_BE]
    taken = apart_numbers(ground)
    return [len(taken)] + taken


def cheapest(ground, numbers, row):
    least = least_row(ground, ground.prices)
    if least is None:
        return [CANNOT_BE]
    return [least[0]] + least[1]


def pays(ground, numbers, row):
    if not some_do(ground):
        return [CANNOT_BE]
    paid = payments(ground)
    return [sum(paid)] + paid


def hits(ground, numbers, row):
    if not are_culverts(ground, row):
        return [OUT_OF_RANGE]
    return [1 if they_do(ground, row) else 0]


# By the call's number: what answers it, how many whole numbers it has, whether a row follows.
CALLS = (
    (begin, 1, False),
    (low, 3, False),
    (drop, 1, False),
    (water, 2, False),
    (rock, 1, False),
    (norock, 1, False),
    (price, 2, False),
    (fewest, 0, False),
    (apart, 0, False),
    (cheapest, 0, False),
    (pays, 0, False),
    (hits, 0, True),
)


def read_call(calls, place):
    """The call that begins at the place."""
    number = calls[place]
    behind = place + 1 + CALLS[number][1]
    numbers = calls[place + 1:behind]
    if not CALLS[number][2]:
        return Call(number, numbers, [], behind)
    row_end = behind + 1 + calls[behind]
    return Call(number, numbers, calls[behind + 1:row_end], row_end)


def answer_call(ground, call):
    if call.number != BEGIN and not ground.is_begun():
        return [NOT_BEGUN]
    handler = CALLS[call.number][0]
    return handler(ground, call.numbers, call.row)


def answers(calls):
    """For each call how many numbers are answered, then these."""
    ground = Ground()
    told = []
    place = 0
    while place < len(calls):
        call = read_call(calls, place)
        answer = answer_call(ground, call)
        told.append(len(answer))
        told.extend(answer)
        place = call.behind
    return told
