"""What holds, over many lists of calls: everything is tried one by one, as the document tells it."""

import itertools
import unittest

from culverts.roads import answers
from helper import (
    APART, BYEND, CHEAPEST, FEWEST, LOOKS, PAYS, STATE, Model, Numbers, any_call, ask, at, begin, behind, call_of,
    carries, fewestfor, ground, hits, ifrock, last, leastroom, look, low, missed, model_after, norock, price, rock,
    share, split, why, without,
)


def small_grounds():
    """Every rock and every two stretches of a road of 4 stations, with some prices."""
    ends = [(x, y) for x in range(4) for y in range(x, 4)]
    for costs in ((1, 1, 1, 1), (1, 3, 1, 2), (4, 2, 5, 9)):
        prices = [price(s, c) for s, c in enumerate(costs)]
        for mask in range(16):
            rocks = [rock(s) for s in range(4) if mask >> s & 1]
            for one, other in itertools.product(ends, ends):
                yield [begin(4), *prices, *rocks, low(*one), low(*other)]


def many_grounds():
    yield from small_grounds()
    numbers = Numbers(1)
    for _ in range(1500):
        yield ground(numbers, 6)
    for _ in range(15):
        yield ground(numbers, 12)


class Holds(unittest.TestCase):
    def check(self, calls):
        model = model_after(calls)
        fewest, apart, cheapest, pays = ask(*calls, *LOOKS)[len(calls):]
        rows = model.rows_that_do()
        if not rows:
            self.assertEqual([fewest, apart, cheapest, pays], [[-33]] * 4, calls)
            return
        self.check_fewest(model, rows, fewest, apart)
        self.check_cheapest(model, rows, cheapest, pays)

    def check_fewest(self, model, rows, fewest, apart):
        self.assertEqual(fewest[0], min(len(row) for row in rows))
        self.assertEqual(fewest[1:], min(row for row in rows if len(row) == fewest[0]))
        self.assertEqual(apart[0], fewest[0])
        self.assertEqual(len(apart), 1 + apart[0])
        self.assertEqual(len(set(apart[1:])), apart[0])
        for one, other in itertools.combinations(apart[1:], 2):
            self.assertFalse(set(model.has(one)) & set(model.has(other)))

    def check_cheapest(self, model, rows, cheapest, pays):
        costs = [(sum(model.cost[s] for s in row), row) for row in rows]
        self.assertEqual((cheapest[0], cheapest[1:]), min(costs))
        self.assertEqual(pays[0], cheapest[0])
        self.assertEqual(len(pays), 1 + len(model.low))
        self.assertEqual(sum(pays[1:]), pays[0])
        for s in model.sites():
            paid = [pays[1 + i] for i in range(len(model.low)) if s in model.has(i)]
            self.assertLessEqual(sum(paid), model.cost[s])

    def test_a_and_b_and_every_row_tried(self):
        for calls in many_grounds():
            self.check(calls)

    def test_hits_and_missed_say_of_every_row_whether_it_does(self):
        numbers = Numbers(2)
        for _ in range(60):
            calls = ground(numbers, 6)
            model = model_after(calls)
            rows = [row for k in range(model.n + 1) for row in itertools.combinations(range(model.n), k)]
            self.assertEqual(behind(calls, *[hits(*row) for row in rows]), [model.hits(list(row)) for row in rows])
            self.assertEqual(behind(calls, *[missed(*row) for row in rows]), [model.missed(list(row)) for row in rows])


class Lines(unittest.TestCase):
    def check(self, calls):
        model = Model()
        for call, found in zip(calls, ask(*calls), strict=True):
            self.assertEqual(found, model.answer(call), (call, calls))

    def test_many_lines(self):
        numbers = Numbers(3)
        for _ in range(500):
            n = 2 + numbers.below(6)
            self.check([any_call(numbers, n), begin(n)] + [any_call(numbers, n) for _ in range(60)])

    def test_lines_of_256_calls_of_all_24_kinds(self):
        numbers = Numbers(4)
        for n in (2, 5, 8, 12):
            calls = [begin(n)] + [any_call(numbers, n) for _ in range(231)]
            calls += [call_of(kind, numbers, n) for kind in reversed(range(24))]
            self.assertEqual({call[0] for call in calls}, set(range(24)))
            self.assertEqual(len(ask(*calls)), 256)
            self.check(calls)

    def test_256_looks_at_the_longest_road(self):
        lows = [low(x, x + 4, 20) for x in range(8)]
        prices = [price(s, 1 + s * 5 % 9) for s in range(12)]
        laid = [begin(12), *lows, *prices]
        calls = laid + [LOOKS[i % 4] for i in range(256 - len(laid))]
        self.assertEqual(len(calls), 256)
        model = model_after(laid)
        told = [model.fewest(), model.apart(), model.cheapest(), model.pays()]
        self.assertEqual(ask(*calls)[len(laid):], [told[i % 4] for i in range(256 - len(laid))])

    def test_256_rows_of_40(self):
        wrong = [hits(*range(40)), missed(*range(40)), carries(5, *range(40)), why(5, *range(40)),
                 share(5, *range(40)), leastroom(*range(40))]
        calls = [begin(12)] + [wrong[i % 6] for i in range(255)]
        self.assertEqual(ask(*calls), [[0]] + [[-22]] * 255)

    def test_256_fewest_for_at_the_longest_road(self):
        laid = [begin(12), *[low(x, x + 4, 20) for x in range(8)]]
        model = model_after(laid)
        rooms = [8, 20, 30, 160]
        found = {k: model.fewestfor(k) for k in rooms}
        calls = [fewestfor(rooms[i % 4]) for i in range(256 - len(laid))]
        self.assertEqual(behind(laid, *calls), [found[call[1]] for call in calls])


class HandedIn(unittest.TestCase):
    def lines(self):
        numbers = Numbers(5)
        for _ in range(100):
            yield [number for call in ground(numbers, 12) for number in call] + [
                number for _ in range(20) for number in any_call(numbers, 12)]

    def test_the_list_is_as_it_was(self):
        for line in self.lines():
            kept = list(line)
            answers(line)
            self.assertEqual(line, kept)

    def test_the_same_list_twice_is_answered_alike(self):
        for line in self.lines():
            first = answers(line)
            self.assertEqual(answers(line), first)
            self.assertEqual(answers(list(line)), first)

    def test_nothing_is_kept(self):
        before = answers(begin(4) + FEWEST)
        self.assertEqual(answers(FEWEST), [1, -11])
        answers(begin(9) + rock(0) + low(0, 8) + price(1, 9))
        self.assertEqual(answers(FEWEST), [1, -11])
        self.assertEqual(answers(begin(4) + FEWEST), before)
        self.assertEqual(last(begin(4), norock(0)), [-17])

    def test_what_is_given_back_is_new_and_may_be_changed(self):
        line = begin(4) + low(0, 1) + FEWEST + CHEAPEST + APART + PAYS
        first = answers(line)
        kept = list(first)
        first.clear()
        self.assertEqual(answers(line), kept)

    def test_whole_numbers_in_a_list(self):
        for line in self.lines():
            told = answers(line)
            self.assertIs(type(told), list)
            self.assertEqual({type(number) for number in told}, {int})

    def test_a_count_ahead_of_each_answer(self):
        line = FEWEST + begin(3) + low(0, 1, 4) + low(2, 2, 5) + FEWEST + APART + CHEAPEST + PAYS + hits(0, 2) + rock(2)
        self.assertEqual(answers(line + FEWEST), [
            1, -11, 1, 0, 1, 0, 1, 1, 3, 2, 0, 2, 3, 2, 0, 1, 3, 2, 0, 2, 3, 2, 1, 1, 1, 1, 1, 1, 1, -33])

    def test_a_count_ahead_of_each_answer_of_the_other_calls(self):
        line = STATE + begin(3) + low(0, 1, 4) + low(2, 2, 5)
        self.assertEqual(answers(line), [1, -11, 1, 0, 1, 0, 1, 1])
        line += missed(0) + carries(5, 0, 2) + why(4, 0, 2) + why(5, 0, 2) + share(5, 0, 2) + share(4, 0, 2)
        line += leastroom(0, 2) + fewestfor(5) + without(0) + ifrock(2) + at(2) + look(1) + BYEND + STATE + look(2)
        self.assertEqual(answers(line)[8:], [
            2, 1, 1, 1, 1, 4, 0, 2, 9, 8, 1, -17, 7, 2, 0, 0, 4, 1, 2, 5, 1, -33,
            1, 5, 3, 2, 0, 2, 1, 1, 1, -33, 3, 0, 1, 1, 3, 2, 2, 5, 3, 2, 0, 1, 5, 0, 3, 0, 2, 9, 1, -2])

    def test_only_first_answers_are_below_0(self):
        for line in self.lines():
            for answer in split(answers(line)):
                if answer[0] < 0:
                    self.assertIn(answer, [[-2], [-11], [-17], [-22], [-28], [-33]])
                self.assertTrue(all(number >= 0 for number in answer[1:]))


if __name__ == "__main__":
    unittest.main()
