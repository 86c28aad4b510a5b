"""The calls on one road, read from a list of numbers and answered as one."""

from culverts.carrying import all_goes, fewest_carrying, is_room, least_room, shares, too_much
from culverts.choices import (
    apart_numbers,
    are_culverts,
    by_ends,
    fewest_row,
    least_row,
    missed_numbers,
    payments,
    some_do,
    they_do,
)
from culverts.ground import Ground
from culverts.refusals import ALREADY_SO, CANNOT_BE, NONE_SUCH, NOT_BEGUN, OUT_OF_RANGE

BEGIN = 0


class Call:
    """A call's number, whole numbers and row, and the place behind it in the list."""

    def __init__(self, number, numbers, row, behind):
        self.number = number
        self.numbers = numbers
        self.row = row
        self.behind = behind


def begin(ground, numbers, row):
    return [ground.begin(numbers[0])]


def low(ground, numbers, row):
    return [ground.low(numbers[0], numbers[1], numbers[2])]


def drop(ground, numbers, row):
    return [ground.drop(numbers[0])]


def water(ground, numbers, row):
    return [ground.water(numbers[0], numbers[1])]


def rock(ground, numbers, row):
    return [ground.set_rock(numbers[0], True)]


def norock(ground, numbers, row):
    return [ground.set_rock(numbers[0], False)]


def price(ground, numbers, row):
    return [ground.price(numbers[0], numbers[1])]


def counted(found):
    """How many there are, then these; refused if nothing could be found."""
    if found is None:
        return [CANNOT_BE]
    return [len(found)] + found


def fewest(ground, numbers, row):
    return counted(fewest_row(ground))


def apart(ground, numbers, row):
    if not some_do(ground):
        return [CANNOT_BE]
    return counted(apart_numbers(ground))


def cheapest(ground, numbers, row):
    least = least_row(ground, ground.prices)
    if least is None:
        return [CANNOT_BE]
    return [least[0]] + least[1]


def pays(ground, numbers, row):
    if not some_do(ground):
        return [CANNOT_BE]
    paid = payments(ground)
    return [sum(paid)] + paid


def hits(ground, numbers, row):
    if not are_culverts(ground, row):
        return [OUT_OF_RANGE]
    return [1 if they_do(ground, row) else 0]


def missed(ground, numbers, row):
    if not are_culverts(ground, row):
        return [OUT_OF_RANGE]
    return counted(missed_numbers(ground, row))


def can_take(ground, room, row):
    """Whether these are culverts, and each may take so much."""
    return is_room(room) and are_culverts(ground, row)


def carries(ground, numbers, row):
    if not can_take(ground, numbers[0], row):
        return [OUT_OF_RANGE]
    return [1 if all_goes(ground, numbers[0], row) else 0]


def why(ground, numbers, row):
    if not can_take(ground, numbers[0], row):
        return [OUT_OF_RANGE]
    found = too_much(ground, numbers[0], row)
    return [ALREADY_SO] if found is None else found


def share(ground, numbers, row):
    if not can_take(ground, numbers[0], row):
        return [OUT_OF_RANGE]
    if not all_goes(ground, numbers[0], row):
        return [CANNOT_BE]
    parts = shares(ground, numbers[0], row)
    told = [len(parts)]
    for part in parts:
        told.extend(part)
    return told


def leastroom(ground, numbers, row):
    if not are_culverts(ground, row):
        return [OUT_OF_RANGE]
    room = least_room(ground, row)
    return [CANNOT_BE if room is None else room]


def fewestfor(ground, numbers, row):
    if not is_room(numbers[0]):
        return [OUT_OF_RANGE]
    return counted(fewest_carrying(ground, numbers[0]))


def without(ground, numbers, row):
    if not ground.has_stretch(numbers[0]):
        return [NONE_SUCH]
    other = ground.twin()
    other.drop(numbers[0])
    return counted(fewest_row(other))[:1]


def ifrock(ground, numbers, row):
    if not ground.has_station(numbers[0]):
        return [NONE_SUCH]
    # Rock that is there already is no refusal here: then all is as it is.
    other = ground.twin()
    other.set_rock(numbers[0], True)
    return counted(fewest_row(other))[:1]


def at(ground, numbers, row):
    station = numbers[0]
    if not ground.has_station(station):
        return [NONE_SUCH]
    count = len([stretch for stretch in ground.stretches if stretch.covers(station)])
    return [1 if ground.rocky[station] else 0, ground.prices[station], count]


def look(ground, numbers, row):
    if not ground.has_stretch(numbers[0]):
        return [NONE_SUCH]
    stretch = ground.stretches[numbers[0]]
    return [stretch.first, stretch.last, stretch.flow]


def byend(ground, numbers, row):
    return counted(by_ends(ground.stretches))


def state(ground, numbers, row):
    flow = sum([stretch.flow for stretch in ground.stretches])
    return [0, len(ground.rocky), ground.rock_count(), len(ground.stretches), flow]


# By the call's number: what answers it, how many whole numbers it has, whether a row follows.
CALLS = (
    (begin, 1, False),
    (low, 3, False),
    (drop, 1, False),
    (water, 2, False),
    (rock, 1, False),
    (norock, 1, False),
    (price, 2, False),
    (fewest, 0, False),
    (apart, 0, False),
    (cheapest, 0, False),
    (pays, 0, False),
    (hits, 0, True),
    (missed, 0, True),
    (carries, 1, True),
    (why, 1, True),
    (share, 1, True),
    (leastroom, 0, True),
    (fewestfor, 1, False),
    (without, 1, False),
    (ifrock, 1, False),
    (at, 1, False),
    (look, 1, False),
    (byend, 0, False),
    (state, 0, False),
)


def read_call(calls, place):
    """The call that begins at the place."""
    number = calls[place]
    behind = place + 1 + CALLS[number][1]
    numbers = calls[place + 1:behind]
    if not CALLS[number][2]:
        return Call(number, numbers, [], behind)
    row_end = behind + 1 + calls[behind]
    return Call(number, numbers, calls[behind + 1:row_end], row_end)


def answer_call(ground, call):
    if call.number != BEGIN and not ground.is_begun():
        return [NOT_BEGUN]
    handler = CALLS[call.number][0]
    return handler(ground, call.numbers, call.row)


def answers(calls):
    """For each call how many numbers are answered, then these."""
    ground = Ground()
    told = []
    place = 0
    while place < len(calls):
        call = read_call(calls, place)
        answer = answer_call(ground, call)
        told.append(len(answer))
        told.extend(answer)
        place = call.behind
    return told
