"""Whether all water goes by culverts that take so much each, how it is shared, and where there is too much."""

from culverts.choices import by_ends

MOST_ROOM = 160


def is_room(room):
    return 1 <= room <= MOST_ROOM


def spans(ground, row):
    """Each two stations, by the first and then the second, the water wholly between, how many culverts there."""
    found = []
    for first in range(len(ground.rocky)):
        stretches = [stretch for stretch in ground.stretches if first <= stretch.first]
        stations = [station for station in row if first <= station]
        for last in range(first, len(ground.rocky)):
            flow = sum([stretch.flow for stretch in stretches if stretch.last <= last])
            count = len([station for station in stations if station <= last])
            found.append((first, last, flow, count))
    return found


def too_much(ground, room, row):
    """The first two stations with too much between, the water, how much is taken; None if all goes."""
    for first, last, flow, count in spans(ground, row):
        if flow > room * count:
            return [first, last, flow, room * count]
    return None


def all_goes(ground, room, row):
    return too_much(ground, room, row) is None


def shares(ground, room, row):
    """Of each share the stretch's number, the culvert's station, and how much; all water must go.

    What ends soonest is taken first, for the rest can wait longer.
    """
    left = [stretch.flow for stretch in ground.stretches]
    order = by_ends(ground.stretches)
    told = []
    for station in row:
        free = room
        having = [number for number in order if ground.stretches[number].covers(station)]
        for number in having:
            amount = min(free, left[number])
            if amount > 0:
                told.append((number, station, amount))
                left[number] -= amount
                free -= amount
    return told


def least_room(ground, row):
    """How much each culvert must take at least; None if there is water that has no culvert."""
    least = 1
    for first, last, flow, count in spans(ground, row):
        if flow > 0 and count == 0:
            return None
        if flow > least * count:
            least = (flow + count - 1) // count
    return least


def fewest_carrying(ground, room):
    """The row of the fewest culverts by which all water goes, of like ones that ahead; None if by none.

    From the last station back, each culvert is left out that isn't needed while all ahead of it are
    there. So from any station on no row that carries all has fewer: none is shorter, and of those as
    short none is ahead.
    """
    row = ground.sites()
    if not all_goes(ground, room, row):
        return None
    for site in reversed(ground.sites()):
        rest = [other for other in row if other != site]
        if all_goes(ground, room, rest):
            row = rest
    return row
