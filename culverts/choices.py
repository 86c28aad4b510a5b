"""Which culverts do, which of them are best, and which stretches show that no better ones do."""


def rises(row):
    return all([row[place] < row[place + 1] for place in range(len(row) - 1)])


def are_culverts(ground, row):
    """Whether a row that is told is a rising row of stations without rock."""
    return rises(row) and all([ground.is_site(station) for station in row])


def has_one(stretch, row):
    return any([stretch.covers(station) for station in row])


def missed_numbers(ground, row):
    """The stretches that have none of the culverts, rising."""
    return [number for number, stretch in enumerate(ground.stretches) if not has_one(stretch, row)]


def they_do(ground, row):
    return len(missed_numbers(ground, row)) == 0


def some_do(ground):
    """If any culverts do, those at all stations without rock do."""
    return they_do(ground, ground.sites())


def by_ends(stretches):
    """The stretches' numbers, by the stations to which they go, like ones by number."""
    return sorted(range(len(stretches)), key=lambda number: (stretches[number].last, number))


def is_skipped(stretches, left, right):
    """Whether a stretch lies wholly between two stations, neither of them with it."""
    return any([left < stretch.first and stretch.last < right for stretch in stretches])


def best_behind(ground, tails, station):
    """The best of the tails that can follow upon a culvert at the station, None if there is none."""
    fitting = [tail for tail in tails if not is_skipped(ground.stretches, station, tail[2])]
    return min(fitting, default=None)


def least_row(ground, costs):
    """What the culverts that do and cost least cost together, then their row; None if none do.

    A tail is what a row costs, the row, and the station where it begins. Of the rows that begin
    at one station only the best is kept: whatever is put before them, it stays the best. Lists
    are compared as rows are: by where they first differ, then the one that ends is ahead.
    """
    tails = [(0, [], len(ground.rocky))]
    for site in reversed(ground.sites()):
        best = best_behind(ground, tails, site)
        if best is not None:
            tails.append((costs[site] + best[0], [site] + best[1], site))
    whole = best_behind(ground, tails, -1)
    return None if whole is None else (whole[0], whole[1])


def fewest_row(ground):
    """The row of the fewest culverts that do; None if none do."""
    least = least_row(ground, [1] * len(ground.rocky))
    return None if least is None else least[1]


def are_apart(ground, one, other):
    """Whether two stretches share no station without rock."""
    return not has_one(one, ground.sites_of(other))


def apart_numbers(ground):
    """The stretches that are apart from all taken ahead of them, as they are taken."""
    stretches = ground.stretches
    taken = []
    for number in by_ends(stretches):
        if all([are_apart(ground, stretches[number], stretches[other]) for other in taken]):
            taken.append(number)
    return taken


def payments(ground):
    """What each stretch pays, by number; each must have a station without rock."""
    left = list(ground.prices)
    paid = [0] * len(ground.stretches)
    for number in by_ends(ground.stretches):
        sites = ground.sites_of(ground.stretches[number])
        paid[number] = min([left[site] for site in sites])
        for site in sites:
            left[site] -= paid[number]
    return paid
