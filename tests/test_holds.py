"""What holds, over many lists of calls: everything is tried one by one, as the document tells it."""

import itertools
import unittest

from culverts.roads import answers
from helper import (
    APART, CHEAPEST, FEWEST, GREATEST, LOOKS, PAYS, ask, begin, drop, hits, last, low, norock, price, rock, split, water,
)


class Numbers:
    """Numbers that look like chance but are the same each time."""

    def __init__(self, seed):
        self.value = seed

    def below(self, bound):
        self.value = (self.value * 6364136223846793005 + 1442695040888963407) % 2 ** 64
        return (self.value >> 33) % bound

    def one_of(self, choices):
        return choices[self.below(len(choices))]


class Model:
    """The object in the document's own words, with no thought of speed."""

    def __init__(self):
        self.n = 0

    def sites(self):
        return [s for s in range(self.n) if s not in self.rock]

    def has(self, i):
        x, y, _ = self.low[i]
        return [s for s in self.sites() if x <= s <= y]

    def do(self, row):
        return all(set(self.has(i)) & set(row) for i in range(len(self.low)))

    def rows_that_do(self):
        sites = self.sites()
        rows = [list(row) for k in range(len(sites) + 1) for row in itertools.combinations(sites, k)]
        return [row for row in rows if self.do(row)]

    def ends(self):
        return sorted(range(len(self.low)), key=lambda i: (self.low[i][1], i))

    def answer(self, call):
        if call[0] == 0:
            return self.begin(call[1])
        if self.n == 0:
            return [-11]
        if call[0] == 11:
            return self.hits(call[2:])
        names = [None, self.add, self.drop, self.water, self.set_rock, self.norock, self.price,
                 self.fewest, self.apart, self.cheapest, self.pays]
        return names[call[0]](*call[1:])

    def begin(self, n):
        if n not in range(2, 13):
            return [-22]
        self.n = n
        self.rock = set()
        self.cost = {s: 1 for s in range(n)}
        self.low = []
        return [0]

    def add(self, x, y, q):
        if y >= self.n or y < x or q not in range(1, 21):
            return [-22]
        if len(self.low) == 8:
            return [-28]
        self.low.append((x, y, q))
        return [len(self.low) - 1]

    def drop(self, i):
        if i >= len(self.low):
            return [-2]
        self.low = self.low[:i] + self.low[i + 1:]
        return [len(self.low)]

    def water(self, i, q):
        if i >= len(self.low):
            return [-2]
        if q not in range(1, 21):
            return [-22]
        x, y, before = self.low[i]
        self.low[i] = (x, y, q)
        return [before]

    def set_rock(self, s):
        if s >= self.n:
            return [-2]
        if s in self.rock:
            return [-17]
        self.rock.add(s)
        return [len(self.rock)]

    def norock(self, s):
        if s >= self.n:
            return [-2]
        if s not in self.rock:
            return [-17]
        self.rock.remove(s)
        return [len(self.rock)]

    def price(self, s, c):
        if s >= self.n:
            return [-2]
        if c not in range(1, 10):
            return [-22]
        before = self.cost[s]
        self.cost[s] = c
        return [before]

    def fewest(self):
        rows = self.rows_that_do()
        if not rows:
            return [-33]
        best = min(rows, key=lambda row: (len(row), row))
        return [len(best)] + best

    def cheapest(self):
        rows = self.rows_that_do()
        if not rows:
            return [-33]
        cost, best = min((sum(self.cost[s] for s in row), row) for row in rows)
        return [cost] + best

    def apart(self):
        if not self.do(self.sites()):
            return [-33]
        taken = []
        for i in self.ends():
            if not any(set(self.has(i)) & set(self.has(other)) for other in taken):
                taken.append(i)
        return [len(taken)] + taken

    def pays(self):
        if not self.do(self.sites()):
            return [-33]
        left = dict(self.cost)
        paid = {}
        for i in self.ends():
            paid[i] = min(left[s] for s in self.has(i))
            for s in self.has(i):
                left[s] -= paid[i]
        return [sum(paid.values())] + [paid[i] for i in range(len(self.low))]

    def hits(self, row):
        if row != sorted(set(row)) or not set(row) <= set(self.sites()):
            return [-22]
        return [int(self.do(row))]


def model_after(calls):
    model = Model()
    for call in calls:
        model.answer(call)
    return model


def ground(numbers, most):
    """Calls that lay out a road of at most so many stations."""
    n = 2 + numbers.below(most - 1)
    calls = [begin(n)]
    for s in range(n):
        if numbers.below(4) == 0:
            calls.append(rock(s))
        if numbers.below(2) == 0:
            calls.append(price(s, 1 + numbers.below(9)))
    for _ in range(numbers.below(9)):
        x = numbers.below(n)
        calls.append(low(x, x + numbers.below(n - x), 1 + numbers.below(20)))
    return calls


def any_number(numbers, most):
    """Mostly one that is near what is allowed, sometimes one far off."""
    if numbers.below(12) == 0:
        return numbers.one_of([0, most, most + 1, 65535, 65536, GREATEST - 1, GREATEST])
    return numbers.below(most + 1)


def any_row(numbers):
    kind = numbers.below(8)
    if kind == 0:
        return [numbers.below(14) for _ in range(numbers.below(41))]
    if kind == 1:
        return [numbers.one_of([0, 1, 11, 12, 65535]) for _ in range(numbers.below(4))]
    return [s for s in range(12) if numbers.below(4) == 0]


def any_call(numbers):
    kind = numbers.below(24)
    if kind == 0 and numbers.below(4) == 0:
        return begin(any_number(numbers, 12))
    if kind <= 5:
        return low(any_number(numbers, 7), any_number(numbers, 11), any_number(numbers, 20))
    simple = {
        6: lambda: drop(any_number(numbers, 8)),
        7: lambda: water(any_number(numbers, 8), any_number(numbers, 21)),
        8: lambda: rock(any_number(numbers, 12)),
        9: lambda: norock(any_number(numbers, 12)),
        10: lambda: price(any_number(numbers, 12), any_number(numbers, 10)),
        11: lambda: price(any_number(numbers, 12), any_number(numbers, 10)),
        12: lambda: rock(any_number(numbers, 12)),
        13: lambda: norock(any_number(numbers, 12)),
    }
    if kind in simple:
        return simple[kind]()
    if kind <= 18:
        return hits(*any_row(numbers))
    return numbers.one_of(LOOKS)


def small_grounds():
    """Every rock and every two stretches of a road of 4 stations, with some prices."""
    ends = [(x, y) for x in range(4) for y in range(x, 4)]
    for costs in ((1, 1, 1, 1), (1, 3, 1, 2), (4, 2, 5, 9)):
        prices = [price(s, c) for s, c in enumerate(costs)]
        for mask in range(16):
            rocks = [rock(s) for s in range(4) if mask >> s & 1]
            for one, other in itertools.product(ends, ends):
                yield [begin(4), *prices, *rocks, low(*one), low(*other)]


def many_grounds():
    yield from small_grounds()
    numbers = Numbers(1)
    for _ in range(1500):
        yield ground(numbers, 6)
    for _ in range(15):
        yield ground(numbers, 12)


class Holds(unittest.TestCase):
    def check(self, calls):
        model = model_after(calls)
        fewest, apart, cheapest, pays = ask(*calls, *LOOKS)[len(calls):]
        rows = model.rows_that_do()
        if not rows:
            self.assertEqual([fewest, apart, cheapest, pays], [[-33]] * 4, calls)
            return
        self.check_fewest(model, rows, fewest, apart)
        self.check_cheapest(model, rows, cheapest, pays)

    def check_fewest(self, model, rows, fewest, apart):
        self.assertEqual(fewest[0], min(len(row) for row in rows))
        self.assertEqual(fewest[1:], min(row for row in rows if len(row) == fewest[0]))
        self.assertEqual(apart[0], fewest[0])
        self.assertEqual(len(apart), 1 + apart[0])
        self.assertEqual(len(set(apart[1:])), apart[0])
        for one, other in itertools.combinations(apart[1:], 2):
            self.assertFalse(set(model.has(one)) & set(model.has(other)))

    def check_cheapest(self, model, rows, cheapest, pays):
        costs = [(sum(model.cost[s] for s in row), row) for row in rows]
        self.assertEqual((cheapest[0], cheapest[1:]), min(costs))
        self.assertEqual(pays[0], cheapest[0])
        self.assertEqual(len(pays), 1 + len(model.low))
        self.assertEqual(sum(pays[1:]), pays[0])
        for s in model.sites():
            paid = [pays[1 + i] for i in range(len(model.low)) if s in model.has(i)]
            self.assertLessEqual(sum(paid), model.cost[s])

    def test_a_and_b_and_every_row_tried(self):
        for calls in many_grounds():
            self.check(calls)

    def test_hits_says_of_every_row_whether_it_does(self):
        numbers = Numbers(2)
        for _ in range(60):
            calls = ground(numbers, 6)
            model = model_after(calls)
            rows = [row for k in range(model.n + 1) for row in itertools.combinations(range(model.n), k)]
            found = ask(*calls, *[hits(*row) for row in rows])[len(calls):]
            self.assertEqual(found, [model.hits(list(row)) for row in rows])


class Lines(unittest.TestCase):
    def check(self, calls):
        model = Model()
        for call, found in zip(calls, ask(*calls), strict=True):
            self.assertEqual(found, model.answer(call), (call, calls))

    def test_many_lines(self):
        numbers = Numbers(3)
        for _ in range(400):
            n = 2 + numbers.below(5)
            self.check([any_call(numbers), begin(n)] + [any_call(numbers) for _ in range(40)])

    def test_lines_of_256_calls(self):
        numbers = Numbers(4)
        for n in (2, 5, 8, 12):
            calls = [begin(n)] + [any_call(numbers) for _ in range(255)]
            self.assertEqual(len(ask(*calls)), 256)
            self.check(calls)

    def test_256_looks_at_the_longest_road(self):
        lows = [low(x, x + 4, 20) for x in range(8)]
        prices = [price(s, 1 + s * 5 % 9) for s in range(12)]
        laid = [begin(12), *lows, *prices]
        calls = laid + [LOOKS[i % 4] for i in range(256 - len(laid))]
        self.assertEqual(len(calls), 256)
        model = model_after(laid)
        told = [model.fewest(), model.apart(), model.cheapest(), model.pays()]
        self.assertEqual(ask(*calls)[len(laid):], [told[i % 4] for i in range(256 - len(laid))])

    def test_256_rows_of_40(self):
        calls = [begin(12)] + [hits(*range(40))] * 255
        self.assertEqual(ask(*calls), [[0]] + [[-22]] * 255)


class HandedIn(unittest.TestCase):
    def lines(self):
        numbers = Numbers(5)
        for _ in range(100):
            yield [number for call in ground(numbers, 12) for number in call] + [
                number for _ in range(20) for number in any_call(numbers)]

    def test_the_list_is_as_it_was(self):
        for line in self.lines():
            kept = list(line)
            answers(line)
            self.assertEqual(line, kept)

    def test_the_same_list_twice_is_answered_alike(self):
        for line in self.lines():
            first = answers(line)
            self.assertEqual(answers(line), first)
            self.assertEqual(answers(list(line)), first)

    def test_nothing_is_kept(self):
        before = answers(begin(4) + FEWEST)
        self.assertEqual(answers(FEWEST), [1, -11])
        answers(begin(9) + rock(0) + low(0, 8) + price(1, 9))
        self.assertEqual(answers(FEWEST), [1, -11])
        self.assertEqual(answers(begin(4) + FEWEST), before)
        self.assertEqual(last(begin(4), norock(0)), [-17])

    def test_what_is_given_back_is_new_and_may_be_changed(self):
        line = begin(4) + low(0, 1) + FEWEST + CHEAPEST + APART + PAYS
        first = answers(line)
        kept = list(first)
        first.clear()
        self.assertEqual(answers(line), kept)

    def test_whole_numbers_in_a_list(self):
        for line in self.lines():
            told = answers(line)
            self.assertIs(type(told), list)
            self.assertEqual({type(number) for number in told}, {int})

    def test_a_count_ahead_of_each_answer(self):
        line = FEWEST + begin(3) + low(0, 1, 4) + low(2, 2, 5) + FEWEST + APART + CHEAPEST + PAYS + hits(0, 2) + rock(2)
        self.assertEqual(answers(line + FEWEST), [
            1, -11, 1, 0, 1, 0, 1, 1, 3, 2, 0, 2, 3, 2, 0, 1, 3, 2, 0, 2, 3, 2, 1, 1, 1, 1, 1, 1, 1, -33])

    def test_only_first_answers_are_below_0(self):
        for line in self.lines():
            for answer in split(answers(line)):
                if answer[0] < 0:
                    self.assertIn(answer, [[-2], [-11], [-17], [-22], [-28], [-33]])
                self.assertTrue(all(number >= 0 for number in answer[1:]))


if __name__ == "__main__":
    unittest.main()
