"""What the tests share: the calls by their names, the answers call by call, and a model of the object."""

import copy
import itertools

from culverts.roads import answers

NONE_SUCH = [-2]
NOT_BEGUN = [-11]
ALREADY_SO = [-17]
OUT_OF_RANGE = [-22]
TOO_MANY = [-28]
CANNOT_BE = [-33]

GREATEST = 4294967295
GREATEST_IN_ROW = 65535


def begin(n):
    return [0, n]


def low(x, y, q=1):
    return [1, x, y, q]


def drop(i):
    return [2, i]


def water(i, q):
    return [3, i, q]


def rock(s):
    return [4, s]


def norock(s):
    return [5, s]


def price(s, c):
    return [6, s, c]


def hits(*row):
    return [11, len(row)] + list(row)


def missed(*row):
    return [12, len(row)] + list(row)


def carries(k, *row):
    return [13, k, len(row)] + list(row)


def why(k, *row):
    return [14, k, len(row)] + list(row)


def share(k, *row):
    return [15, k, len(row)] + list(row)


def leastroom(*row):
    return [16, len(row)] + list(row)


def fewestfor(k):
    return [17, k]


def without(i):
    return [18, i]


def ifrock(s):
    return [19, s]


def at(s):
    return [20, s]


def look(i):
    return [21, i]


FEWEST = [7]
APART = [8]
CHEAPEST = [9]
PAYS = [10]
BYEND = [22]
STATE = [23]

LOOKS = [FEWEST, APART, CHEAPEST, PAYS]


def split(told):
    """One list for each call, from what is given back."""
    found = []
    place = 0
    while place < len(told):
        behind = place + 1 + told[place]
        if told[place] < 1 or behind > len(told):
            raise ValueError(f"no answer at {place} in {told}")
        found.append(told[place + 1:behind])
        place = behind
    return found


def ask(*calls):
    """The answers to some calls on a new object, one list for each."""
    line = []
    for call in calls:
        line.extend(call)
    found = split(answers(line))
    if len(found) != len(calls):
        raise ValueError(f"{len(found)} answers to {len(calls)} calls")
    return found


def last(*calls):
    return ask(*calls)[-1]


def behind(setup, *calls):
    """The answers to some calls behind others, without those to the others."""
    return ask(*setup, *calls)[len(setup):]


def overview(*calls):
    """What state, at, look and byend tell of everything behind some calls."""
    return behind(calls, STATE, BYEND, *[at(s) for s in range(13)], *[look(i) for i in range(9)])


def reveal(*calls):
    """All that can be found out of the object behind some calls, each thing on a line of its own.

    Two lists of calls leave the same object just if this is the same of both.
    """
    stations = range(13)
    numbers = range(8)
    waters = ask(*calls, *[water(i, 1) for i in numbers])[len(calls):]
    count = len([found for found in waters if found != NONE_SUCH])
    found = [
        overview(*calls),
        waters,
        ask(*calls, *LOOKS)[len(calls):],
        ask(*calls, *[rock(s) for s in stations])[len(calls):],
        ask(*calls, *[price(s, 1) for s in stations])[len(calls):],
    ]
    for i in range(count):
        alone = [drop(other) for other in reversed(range(count)) if other != i]
        bare = alone + [norock(s) for s in stations]
        found.append(ask(*calls, *bare, *[hits(s) for s in stations])[len(calls):])
    return found


class Numbers:
    """Numbers that look like chance but are the same each time."""

    def __init__(self, seed):
        self.value = seed

    def below(self, bound):
        self.value = (self.value * 6364136223846793005 + 1442695040888963407) % 2 ** 64
        return (self.value >> 33) % bound

    def one_of(self, choices):
        return choices[self.below(len(choices))]


class Model:
    """The object in the document's own words, with no thought of speed."""

    def __init__(self):
        self.n = 0

    def sites(self):
        return [s for s in range(self.n) if s not in self.rock]

    def has(self, i):
        x, y, _ = self.low[i]
        return [s for s in self.sites() if x <= s <= y]

    def do(self, row):
        return all(set(self.has(i)) & set(row) for i in range(len(self.low)))

    def rows_that_do(self):
        sites = self.sites()
        rows = [list(row) for k in range(len(sites) + 1) for row in itertools.combinations(sites, k)]
        return [row for row in rows if self.do(row)]

    def ends(self):
        return sorted(range(len(self.low)), key=lambda i: (self.low[i][1], i))

    def answer(self, call):
        if call[0] == 0:
            return self.begin(call[1])
        if self.n == 0:
            return [-11]
        names = [None, self.add, self.drop, self.water, self.set_rock, self.norock, self.price,
                 self.fewest, self.apart, self.cheapest, self.pays, self.hits, self.missed, self.carries, self.why,
                 self.share, self.leastroom, self.fewestfor, self.without, self.ifrock, self.at, self.look,
                 self.byend, self.state]
        if call[0] in (11, 12, 16):
            return names[call[0]](call[2:])
        if call[0] in (13, 14, 15):
            return names[call[0]](call[1], call[3:])
        return names[call[0]](*call[1:])

    def begin(self, n):
        if n not in range(2, 13):
            return [-22]
        self.n = n
        self.rock = set()
        self.cost = {s: 1 for s in range(n)}
        self.low = []
        return [0]

    def add(self, x, y, q):
        if y >= self.n or y < x or q not in range(1, 21):
            return [-22]
        if len(self.low) == 8:
            return [-28]
        self.low.append((x, y, q))
        return [len(self.low) - 1]

    def drop(self, i):
        if i >= len(self.low):
            return [-2]
        self.low = self.low[:i] + self.low[i + 1:]
        return [len(self.low)]

    def water(self, i, q):
        if i >= len(self.low):
            return [-2]
        if q not in range(1, 21):
            return [-22]
        x, y, before = self.low[i]
        self.low[i] = (x, y, q)
        return [before]

    def set_rock(self, s):
        if s >= self.n:
            return [-2]
        if s in self.rock:
            return [-17]
        self.rock.add(s)
        return [len(self.rock)]

    def norock(self, s):
        if s >= self.n:
            return [-2]
        if s not in self.rock:
            return [-17]
        self.rock.remove(s)
        return [len(self.rock)]

    def price(self, s, c):
        if s >= self.n:
            return [-2]
        if c not in range(1, 10):
            return [-22]
        before = self.cost[s]
        self.cost[s] = c
        return [before]

    def fewest(self):
        rows = self.rows_that_do()
        if not rows:
            return [-33]
        best = min(rows, key=lambda row: (len(row), row))
        return [len(best)] + best

    def cheapest(self):
        rows = self.rows_that_do()
        if not rows:
            return [-33]
        cost, best = min((sum(self.cost[s] for s in row), row) for row in rows)
        return [cost] + best

    def apart(self):
        if not self.do(self.sites()):
            return [-33]
        taken = []
        for i in self.ends():
            if not any(set(self.has(i)) & set(self.has(other)) for other in taken):
                taken.append(i)
        return [len(taken)] + taken

    def pays(self):
        if not self.do(self.sites()):
            return [-33]
        left = dict(self.cost)
        paid = {}
        for i in self.ends():
            paid[i] = min(left[s] for s in self.has(i))
            for s in self.has(i):
                left[s] -= paid[i]
        return [sum(paid.values())] + [paid[i] for i in range(len(self.low))]

    def wrong(self, row):
        return row != sorted(set(row)) or not set(row) <= set(self.sites())

    def hits(self, row):
        if self.wrong(row):
            return [-22]
        return [int(self.do(row))]

    def missed(self, row):
        if self.wrong(row):
            return [-22]
        found = [i for i in range(len(self.low)) if not set(self.has(i)) & set(row)]
        return [len(found)] + found

    def crowded(self, k, row):
        """Each two stations with too much between them, the water there, and what the culverts there take."""
        found = []
        for a, b in itertools.combinations_with_replacement(range(self.n), 2):
            lying = sum(q for x, y, q in self.low if a <= x and y <= b)
            taken = k * len([s for s in row if a <= s <= b])
            if lying > taken:
                found.append([a, b, lying, taken])
        return found

    def carries(self, k, row):
        if self.wrong(row) or k not in range(1, 161):
            return [-22]
        return [int(not self.crowded(k, row))]

    def why(self, k, row):
        if self.carries(k, row) != [0]:
            return [-22] if self.carries(k, row) == [-22] else [-17]
        return min(self.crowded(k, row))

    def share(self, k, row):
        if self.carries(k, row) != [1]:
            return [-22] if self.carries(k, row) == [-22] else [-33]
        left = [q for x, y, q in self.low]
        told = []
        for s in row:
            taken = 0
            for i in self.ends():
                part = min(left[i], k - taken) if s in self.has(i) else 0
                left[i] -= part
                taken += part
                told += [i, s, part] if part else []
        return [len(told) // 3] + told

    def leastroom(self, row):
        if self.wrong(row):
            return [-22]
        return [next((k for k in range(1, 161) if not self.crowded(k, row)), -33)]

    def fewestfor(self, k):
        if k not in range(1, 161):
            return [-22]
        sites = self.sites()
        if self.crowded(k, sites):
            return [-33]
        rows = [list(row) for count in range(len(sites) + 1) for row in itertools.combinations(sites, count)]
        return next([len(row)] + row for row in rows if not self.crowded(k, row))

    def without(self, i):
        if i >= len(self.low):
            return [-2]
        other = copy.deepcopy(self)
        other.drop(i)
        return other.fewest()[:1]

    def ifrock(self, s):
        if s >= self.n:
            return [-2]
        other = copy.deepcopy(self)
        other.rock.add(s)
        return other.fewest()[:1]

    def at(self, s):
        if s >= self.n:
            return [-2]
        return [int(s in self.rock), self.cost[s], len([x for x, y, q in self.low if x <= s <= y])]

    def look(self, i):
        return list(self.low[i]) if i < len(self.low) else [-2]

    def byend(self):
        return [len(self.low)] + self.ends()

    def state(self):
        return [0, self.n, len(self.rock), len(self.low), sum(q for x, y, q in self.low)]


def model_after(calls):
    model = Model()
    for call in calls:
        model.answer(call)
    return model


def ground(numbers, most):
    """Calls that lay out a road of at most so many stations."""
    n = 2 + numbers.below(most - 1)
    calls = [begin(n)]
    for s in range(n):
        if numbers.below(4) == 0:
            calls.append(rock(s))
        if numbers.below(2) == 0:
            calls.append(price(s, 1 + numbers.below(9)))
    for _ in range(numbers.below(9)):
        x = numbers.below(n)
        calls.append(low(x, x + numbers.below(n - x), 1 + numbers.below(20)))
    return calls


def any_number(numbers, most):
    """Mostly one that is near what is allowed, sometimes one far off."""
    if numbers.below(12) == 0:
        return numbers.one_of([0, most, most + 1, 65535, 65536, GREATEST - 1, GREATEST])
    return numbers.below(most + 1)


def any_stretch(numbers):
    return any_number(numbers, 3 if numbers.below(2) == 0 else 8)


def any_low(numbers, n):
    """Mostly a low stretch that a road of n stations can have."""
    if numbers.below(6) == 0:
        return low(any_number(numbers, n), any_number(numbers, n), any_number(numbers, 21))
    x = numbers.below(n)
    return low(x, x + numbers.below(n - x), 1 + numbers.below(20))


def any_row(numbers, n):
    """Mostly a rising row of stations of a road that has n."""
    kind = numbers.below(12)
    if kind == 0:
        return [numbers.below(14) for _ in range(numbers.below(41))]
    if kind == 1:
        return [numbers.one_of([0, 1, n - 1, n, 65535]) for _ in range(numbers.below(4))]
    return [s for s in range(n) if numbers.below(12) < kind]


def any_room(numbers):
    """How much a culvert takes: mostly so little that it matters, sometimes at an edge or out of range."""
    if numbers.below(6) == 0:
        return numbers.one_of([0, 1, 160, 161, 65536, GREATEST])
    return 1 + numbers.below(30)


def call_of(kind, numbers, n):
    """A call of the kind told by its number, for a road of n stations."""
    makers = {
        0: lambda: begin(any_number(numbers, 12)),
        1: lambda: any_low(numbers, n),
        2: lambda: drop(any_stretch(numbers)),
        3: lambda: water(any_stretch(numbers), any_number(numbers, 21)),
        4: lambda: rock(any_number(numbers, n)),
        5: lambda: norock(any_number(numbers, n)),
        6: lambda: price(any_number(numbers, n), any_number(numbers, 10)),
        11: lambda: hits(*any_row(numbers, n)),
        12: lambda: missed(*any_row(numbers, n)),
        13: lambda: carries(any_room(numbers), *any_row(numbers, n)),
        14: lambda: why(any_room(numbers), *any_row(numbers, n)),
        15: lambda: share(any_room(numbers), *any_row(numbers, n)),
        16: lambda: leastroom(*any_row(numbers, n)),
        17: lambda: fewestfor(any_room(numbers)),
        18: lambda: without(any_stretch(numbers)),
        19: lambda: ifrock(any_number(numbers, n)),
        20: lambda: at(any_number(numbers, n)),
        21: lambda: look(any_stretch(numbers)),
    }
    return makers[kind]() if kind in makers else [kind]


def any_call(numbers, n):
    """One of all kinds; begin seldom, and low often, so that there is something to look at."""
    kind = numbers.below(32)
    if kind == 0 and numbers.below(4) > 0:
        kind = 1
    return call_of(kind if kind < 24 else numbers.one_of([1, 1, 5, 13, 14, 15, 15, 17]), numbers, n)
