"""What holds of water, c and d, and without and ifrock, over many lists of calls: all is tried one by one."""

import itertools
import unittest

from helper import (
    FEWEST, Numbers, begin, behind, carries, drop, fewestfor, ground, ifrock, last, leastroom, low,
    model_after, rock, share, why, without,
)


def all_rows(sites):
    return [list(row) for count in range(len(sites) + 1) for row in itertools.combinations(sites, count)]


def small_roads():
    """Every rock and every two stretches of a road of 3 stations, with some water."""
    ends = [(x, y) for x in range(3) for y in range(x, 3)]
    for waters in ((1, 1), (3, 2)):
        for mask in range(8):
            rocks = [rock(s) for s in range(3) if mask >> s & 1]
            for one, other in itertools.product(ends, ends):
                yield [begin(3), *rocks, low(*one, waters[0]), low(*other, waters[1])]


def random_roads(seed, count, most):
    numbers = Numbers(seed)
    for _ in range(count):
        yield ground(numbers, most)


def roomy_roads(seed, count, most):
    """Roads with little rock and little water, so that it often goes by some culverts and not by others."""
    numbers = Numbers(seed)
    for _ in range(count):
        n = 3 + numbers.below(most - 2)
        calls = [begin(n), *[rock(s) for s in range(n) if numbers.below(8) == 0]]
        for _ in range(1 + numbers.below(8)):
            x = numbers.below(n - 1)
            calls.append(low(x, x + 1 + numbers.below(n - x - 1), 1 + numbers.below(8)))
        yield calls


def most_that_goes(model, k, row):
    """How much water can go at most, by as many steps as there is water, each along a way that is free."""
    sent = {(i, s): 0 for i in range(len(model.low)) for s in row if s in model.has(i)}
    left = [q for x, y, q in model.low]
    while True:
        way = free_way(sent, left, k, row)
        if way is None:
            return sum(q for x, y, q in model.low) - sum(left)
        left[way[0]] -= 1
        for place in range(0, len(way) - 1, 2):
            sent[way[place], way[place + 1]] += 1
            if place + 2 < len(way):
                sent[way[place + 2], way[place + 1]] -= 1


def free_way(sent, left, k, row):
    """Stretch, culvert, stretch .. culvert: each stretch but the first takes water back; the last culvert has room."""
    ways = [[i] for i in range(len(left)) if left[i] > 0]
    seen = {i for way in ways for i in way}
    for way in ways:
        for s in [s for s in row if (way[-1], s) in sent]:
            if sum(part for (i, other), part in sent.items() if other == s) < k:
                return way + [s]
            back = [i for i in range(len(left)) if sent.get((i, s), 0) > 0 and i not in seen]
            seen.update(back)
            ways.extend(way + [s, i] for i in back)
    return None


class Sharing(unittest.TestCase):
    """c: all water can be shared just if nowhere there is too much, and the sharing told does it."""

    def check(self, calls, cases):
        model = model_after(calls)
        for start in range(0, len(cases), 60):
            some = cases[start:start + 60]
            asked = [call for k, row in some for call in (carries(k, *row), why(k, *row), share(k, *row))]
            found = behind(calls, *asked)
            for place, (k, row) in enumerate(some):
                self.check_one(model, k, row, found[3 * place:3 * place + 3])

    def check_one(self, model, k, row, found):
        crowded = model.crowded(k, row)
        total = sum(q for x, y, q in model.low)
        if crowded:
            self.assertEqual(found, [[0], min(crowded), [-33]])
            self.assertLess(most_that_goes(model, k, row), total)
        else:
            self.assertEqual(found[:2], [[1], [-17]])
            self.assertEqual(most_that_goes(model, k, row), total)
            self.check_shares(model, k, row, found[2])

    def check_shares(self, model, k, row, told):
        parts = [told[place:place + 3] for place in range(1, len(told), 3)]
        self.assertEqual((told[0], len(told)), (len(parts), 1 + 3 * len(parts)))
        for i, s, amount in parts:
            self.assertIn(s, row)
            self.assertIn(s, model.has(i))
            self.assertGreater(amount, 0)
        for i, (x, y, q) in enumerate(model.low):
            self.assertEqual(sum(amount for other, s, amount in parts if other == i), q)
        for s in row:
            self.assertLessEqual(sum(amount for i, other, amount in parts if other == s), k)
        ends = model.ends()
        order = [(s, ends.index(i)) for i, s, amount in parts]
        self.assertEqual(order, sorted(set(order)))

    def test_every_row_of_small_roads(self):
        for calls in small_roads():
            rows = all_rows(model_after(calls).sites())
            self.check(calls, [(k, row) for k in (1, 2, 3, 5) for row in rows])

    def test_rows_of_longer_roads(self):
        numbers = Numbers(12)
        for calls in random_roads(11, 250, 12):
            sites = model_after(calls).sites()
            rows = [[s for s in sites if numbers.below(4) > 0] for _ in range(3)] + [sites]
            self.check(calls, [(1 + numbers.below(40), row) for row in rows])

    def test_rows_of_roomy_roads(self):
        numbers = Numbers(14)
        for calls in roomy_roads(15, 250, 12):
            sites = model_after(calls).sites()
            rows = [[s for s in sites if numbers.below(4) > 0] for _ in range(3)] + [sites]
            self.check(calls, [(1 + numbers.below(16), row) for row in rows])

    def test_room_that_is_just_enough_and_one_less(self):
        for calls in (*random_roads(13, 150, 12), *roomy_roads(16, 150, 12)):
            sites = model_after(calls).sites()
            least = last(*calls, leastroom(*sites))[0]
            if least > 1:
                self.check(calls, [(least, sites), (least - 1, sites)])


class Room(unittest.TestCase):
    """d: so much room and no less, so few culverts and no fewer; one more never carries less."""

    def check_least_room(self, calls, row):
        model = model_after(calls)
        least = last(*calls, leastroom(*row))[0]
        if least == -33:
            self.assertEqual(behind(calls, *[carries(k, *row) for k in range(1, 161)]), [[0]] * 160)
        else:
            below = [-22] if least == 1 else [0]
            self.assertEqual(behind(calls, carries(least, *row), carries(least - 1, *row)), [[1], below])
            self.assertTrue(least == 1 or model.crowded(least - 1, row))
            self.assertFalse(model.crowded(least, row))

    def test_least_room_of_every_row_of_small_roads(self):
        for calls in small_roads():
            for row in all_rows(model_after(calls).sites()):
                self.check_least_room(calls, row)

    def test_least_room_on_longer_roads(self):
        numbers = Numbers(21)
        for calls in random_roads(22, 200, 12):
            sites = model_after(calls).sites()
            self.check_least_room(calls, sites)
            self.check_least_room(calls, [s for s in sites if numbers.below(4) > 0])

    def check_fewest(self, calls, k):
        model = model_after(calls)
        found = last(*calls, fewestfor(k))
        rows = [row for row in all_rows(model.sites()) if not model.crowded(k, row)]
        best = min(rows, key=lambda row: (len(row), row), default=None)
        self.assertEqual(found, [-33] if best is None else [len(best)] + best, (calls, k))
        if best is not None:
            self.assertEqual(last(*calls, carries(k, *found[1:])), [1])

    def test_fewest_of_small_roads(self):
        for calls in small_roads():
            for k in (1, 2, 3, 4, 5):
                self.check_fewest(calls, k)

    def test_fewest_of_longer_roads(self):
        numbers = Numbers(31)
        for calls in random_roads(32, 400, 7):
            self.check_fewest(calls, 1 + numbers.below(30))
            self.check_fewest(calls, numbers.one_of([1, 20, 40, 159, 160]))
        for calls in roomy_roads(34, 400, 8):
            self.check_fewest(calls, 2 + numbers.below(12))
        for calls in roomy_roads(33, 12, 12):
            self.check_fewest(calls, 3 + numbers.below(12))

    def test_one_more_never_carries_less(self):
        numbers = Numbers(41)
        for calls in (*random_roads(42, 120, 6), *roomy_roads(44, 120, 7)):
            sites = model_after(calls).sites()
            k = 1 + numbers.below(20)
            rows = all_rows(sites)
            found = dict(zip(map(tuple, rows), behind(calls, *[carries(k, *row) for row in rows]), strict=True))
            for row in found:
                for s in set(sites) - set(row):
                    self.assertLessEqual(found[row], found[tuple(sorted((*row, s)))])

    def test_one_more_never_needs_more_room(self):
        for calls in (*random_roads(43, 120, 8), *roomy_roads(45, 120, 12)):
            sites = model_after(calls).sites()
            rooms = [found[0] for found in behind(calls, *[leastroom(*sites[:count]) for count in range(len(sites) + 1)])]
            able = [room for room in rooms if room != -33]
            self.assertEqual(rooms, [-33] * (len(rooms) - len(able)) + sorted(able, reverse=True))


class WhatWouldBe(unittest.TestCase):
    """without and ifrock against fewest, once it is so, in a list of calls of its own."""

    def check(self, calls):
        model = model_after(calls)
        for i in range(len(model.low)):
            self.assertEqual(last(*calls, without(i)), last(*calls, drop(i), FEWEST)[:1], (calls, i))
        for s in range(model.n):
            self.assertEqual(last(*calls, ifrock(s)), last(*calls, rock(s), FEWEST)[:1], (calls, s))

    def test_small_roads(self):
        for calls in small_roads():
            self.check(calls)

    def test_longer_roads(self):
        for calls in random_roads(51, 250, 12):
            self.check(calls)

    def test_all_asked_on_one_line(self):
        for calls in random_roads(52, 250, 12):
            model = model_after(calls)
            asked = [*[without(i) for i in range(9)], *[ifrock(s) for s in range(13)]]
            kept = behind(calls, FEWEST, *asked, FEWEST, *asked)
            self.assertEqual(kept[:len(asked) + 1], kept[len(asked) + 1:])
            self.assertEqual([answer == [-2] for answer in kept[1:10]], [i >= len(model.low) for i in range(9)])
            self.assertEqual([answer == [-2] for answer in kept[10:23]], [s >= model.n for s in range(13)])


if __name__ == "__main__":
    unittest.main()
