"""The calls that change the object: begin, low, drop, water, rock, norock, price."""

import unittest

from helper import (
    ALREADY_SO, APART, BYEND, CHEAPEST, FEWEST, GREATEST, GREATEST_IN_ROW, LOOKS, NONE_SUCH, NOT_BEGUN, OUT_OF_RANGE,
    PAYS, STATE, TOO_MANY, ask, at, begin, behind, carries, drop, fewestfor, hits, ifrock, last, leastroom, look, low,
    missed, norock, overview, price, reveal, rock, share, water, why, without,
)

EIGHT = [low(i, i) for i in range(8)]
FAR_ROW = [GREATEST_IN_ROW] * 40

# Each call but begin, with what could be right and what can't.
OTHERS = LOOKS + [
    low(0, 1), drop(0), water(0, 1), rock(0), norock(0), price(0, 1), hits(), hits(0), hits(5, 1),
    low(GREATEST, GREATEST, GREATEST), drop(GREATEST), water(GREATEST, GREATEST), rock(GREATEST),
    norock(GREATEST), price(GREATEST, GREATEST), hits(*FAR_ROW),
    missed(), missed(0), missed(5, 1), missed(*FAR_ROW), leastroom(), leastroom(0), leastroom(5, 1), leastroom(*FAR_ROW),
    carries(1), carries(0), carries(160, 0), carries(GREATEST, *FAR_ROW),
    why(1), why(0), why(160, 0), why(GREATEST, *FAR_ROW),
    share(1), share(0), share(160, 0), share(GREATEST, *FAR_ROW),
    fewestfor(1), fewestfor(160), fewestfor(0), fewestfor(161), fewestfor(GREATEST),
    without(0), without(GREATEST), ifrock(0), ifrock(GREATEST), at(0), at(GREATEST), look(0), look(GREATEST),
    BYEND, STATE,
]


class Begin(unittest.TestCase):
    def test_from_2_to_12_stations(self):
        for n in range(2, 13):
            self.assertEqual(last(begin(n)), [0])
            self.assertEqual(last(begin(n), rock(n - 1)), [1])
            self.assertEqual(last(begin(n), rock(n)), NONE_SUCH)

    def test_other_counts_are_out_of_range(self):
        for n in (0, 1, 13, 14, 65535, 65536 + 2, GREATEST):
            self.assertEqual(last(begin(n)), OUT_OF_RANGE)
            self.assertEqual(last(begin(5), begin(n)), OUT_OF_RANGE)

    def test_it_is_new(self):
        used = [begin(5), rock(0), rock(4), price(1, 7), price(4, 9), low(0, 3, 6), low(2, 2, 20)]
        for n in (2, 5, 12):
            self.assertEqual(ask(*used, begin(n))[-1], [0])
            self.assertEqual(reveal(*used, begin(n)), reveal(begin(n)))

    def test_at_first_there_is_no_rock_no_stretch_and_each_price_is_1(self):
        for s in range(12):
            self.assertEqual(last(begin(12), norock(s)), ALREADY_SO)
            self.assertEqual(last(begin(12), price(s, 9)), [1])
        self.assertEqual(last(begin(12), drop(0)), NONE_SUCH)
        self.assertEqual(last(begin(12), low(3, 4)), [0])


class NotBegun(unittest.TestCase):
    def test_each_other_call_ahead_of_begin(self):
        self.assertEqual({call[0] for call in OTHERS}, set(range(1, 24)))
        for call in OTHERS:
            self.assertEqual(last(call), NOT_BEGUN)

    def test_all_of_them_on_one_line(self):
        self.assertEqual(ask(*OTHERS), [NOT_BEGUN] * len(OTHERS))

    def test_a_refused_begin_begins_nothing(self):
        for n in (0, 1, 13, GREATEST):
            for call in OTHERS:
                self.assertEqual(ask(begin(n), call), [OUT_OF_RANGE, NOT_BEGUN])
            self.assertEqual(ask(begin(n), FEWEST, begin(2), FEWEST), [OUT_OF_RANGE, NOT_BEGUN, [0], [0]])

    def test_what_is_refused_ahead_of_begin_leaves_nothing(self):
        self.assertEqual(reveal(*OTHERS, begin(6)), reveal(begin(6)))

    def test_a_refused_begin_leaves_what_was_begun(self):
        used = [begin(5), rock(0), price(1, 7), low(0, 3, 6)]
        for n in (0, 1, 13, GREATEST):
            self.assertEqual(reveal(*used, begin(n)), reveal(*used))


class Low(unittest.TestCase):
    def test_numbers_from_0(self):
        self.assertEqual(ask(begin(8), *EIGHT)[1:], [[i] for i in range(8)])

    def test_the_ends_are_with_it(self):
        calls = [begin(6), low(2, 4)] + [hits(s) for s in range(6)]
        self.assertEqual(ask(*calls)[2:], [[0], [0], [1], [1], [1], [0]])

    def test_first_and_last_station(self):
        self.assertEqual(ask(begin(12), low(0, 0), low(11, 11), low(0, 11))[1:], [[0], [1], [2]])
        self.assertEqual(ask(begin(2), low(0, 0), low(1, 1), low(0, 1))[1:], [[0], [1], [2]])

    def test_there_is_no_station_y(self):
        for y in (6, 7, 12, 65535, GREATEST):
            self.assertEqual(last(begin(6), low(0, y)), OUT_OF_RANGE)
            self.assertEqual(last(begin(6), low(y, y)), OUT_OF_RANGE)
        self.assertEqual(last(begin(12), low(0, 12)), OUT_OF_RANGE)

    def test_y_is_less_than_x(self):
        for x, y in ((1, 0), (5, 4), (6, 5), (GREATEST, 0), (GREATEST, 5)):
            self.assertEqual(last(begin(6), low(x, y)), OUT_OF_RANGE)

    def test_water_from_1_to_20(self):
        for q in (1, 2, 19, 20):
            self.assertEqual(ask(begin(6), low(1, 2, q), water(0, 1))[1:], [[0], [q]])
        for q in (0, 21, 22, 65535, GREATEST):
            self.assertEqual(last(begin(6), low(1, 2, q)), OUT_OF_RANGE)

    def test_no_more_than_8(self):
        self.assertEqual(last(begin(8), *EIGHT, low(0, 0)), TOO_MANY)
        self.assertEqual(ask(begin(8), *EIGHT, drop(3), low(0, 7), low(0, 7))[-3:], [[7], [7], TOO_MANY])

    def test_out_of_range_ahead_of_too_many(self):
        for wrong in (low(0, 8), low(2, 1), low(0, 1, 0), low(0, 1, 21), low(GREATEST, GREATEST)):
            self.assertEqual(last(begin(8), *EIGHT, wrong), OUT_OF_RANGE)

    def test_alike_ones_and_ones_on_rock(self):
        self.assertEqual(ask(begin(4), rock(1), low(1, 1), low(1, 1))[2:], [[0], [1]])


class Drop(unittest.TestCase):
    def test_how_many_there_are_then(self):
        self.assertEqual(ask(begin(8), *EIGHT, *[drop(0)] * 9)[9:], [[i] for i in range(7, -1, -1)] + [NONE_SUCH])

    def test_those_behind_are_numbered_one_less(self):
        calls = [begin(4), low(0, 0, 5), low(1, 1, 6), low(2, 2, 7), drop(1)]
        self.assertEqual(ask(*calls, water(0, 1), water(1, 1), water(2, 1))[5:], [[5], [7], NONE_SUCH])
        self.assertEqual(ask(*calls, hits(0, 2), hits(0, 1), hits(1, 2))[5:], [[1], [0], [0]])

    def test_the_first_and_the_last(self):
        calls = [begin(4), low(0, 0, 5), low(1, 1, 6), low(2, 2, 7)]
        self.assertEqual(ask(*calls, drop(0), water(0, 1), water(1, 1))[4:], [[2], [6], [7]])
        self.assertEqual(ask(*calls, drop(2), water(0, 1), water(1, 1))[4:], [[2], [5], [6]])

    def test_no_such_stretch(self):
        for i in (1, 2, 8, 65535, GREATEST):
            self.assertEqual(last(begin(4), low(0, 1), drop(i)), NONE_SUCH)
        self.assertEqual(last(begin(4), drop(0)), NONE_SUCH)


class Water(unittest.TestCase):
    def test_how_much_it_had(self):
        calls = [begin(4), low(0, 1, 4), low(0, 1, 9), water(0, 20), water(0, 1), water(0, 1), water(1, 2)]
        self.assertEqual(ask(*calls)[3:], [[4], [20], [1], [9]])

    def test_from_1_to_20(self):
        for q in (0, 21, 65535, GREATEST):
            self.assertEqual(ask(begin(4), low(0, 1, 4), water(0, q), water(0, 1))[2:], [OUT_OF_RANGE, [4]])
        for q in (1, 20):
            self.assertEqual(ask(begin(4), low(0, 1, 4), water(0, q), water(0, 1))[2:], [[4], [q]])

    def test_no_such_stretch(self):
        for i in (1, 2, 8, 65535, GREATEST):
            self.assertEqual(last(begin(4), low(0, 1), water(i, 5)), NONE_SUCH)

    def test_none_such_ahead_of_out_of_range(self):
        for q in (0, 21, GREATEST):
            self.assertEqual(last(begin(4), low(0, 1), water(1, q)), NONE_SUCH)


class Rock(unittest.TestCase):
    def test_at_how_many_stations(self):
        calls = [rock(0), rock(3), rock(1), norock(3), norock(0), norock(1), rock(2)]
        self.assertEqual(ask(begin(4), *calls)[1:], [[1], [2], [3], [2], [1], [0], [1]])

    def test_already_so(self):
        self.assertEqual(ask(begin(4), rock(3), rock(3), rock(0))[1:], [[1], ALREADY_SO, [2]])
        self.assertEqual(ask(begin(4), norock(3), rock(3), norock(3), norock(3))[1:], [ALREADY_SO, [1], [0], ALREADY_SO])

    def test_no_such_station(self):
        for s in (4, 5, 12, 65535, GREATEST):
            self.assertEqual(last(begin(4), rock(s)), NONE_SUCH)
            self.assertEqual(last(begin(4), norock(s)), NONE_SUCH)
        self.assertEqual(ask(begin(12), rock(11), norock(11), rock(12))[1:], [[1], [0], NONE_SUCH])

    def test_everywhere(self):
        self.assertEqual(ask(begin(12), *[rock(s) for s in range(12)])[1:], [[s] for s in range(1, 13)])

    def test_a_culvert_can_be_there_again(self):
        calls = [begin(3), low(1, 1), rock(1), hits(1), FEWEST, norock(1), hits(1), FEWEST]
        self.assertEqual(ask(*calls)[3:], [OUT_OF_RANGE, [-33], [0], [1], [1, 1]])


class Price(unittest.TestCase):
    def test_what_it_did_cost(self):
        calls = [price(0, 9), price(0, 1), price(0, 5), price(0, 5), price(3, 2), price(3, 3)]
        self.assertEqual(ask(begin(4), *calls)[1:], [[1], [9], [1], [5], [1], [2]])

    def test_from_1_to_9(self):
        for c in (0, 10, 11, 65535, GREATEST):
            self.assertEqual(ask(begin(4), price(2, 6), price(2, c), price(2, 1))[2:], [OUT_OF_RANGE, [6]])

    def test_no_such_station(self):
        for s in (4, 5, 12, 65535, GREATEST):
            self.assertEqual(last(begin(4), price(s, 3)), NONE_SUCH)
        self.assertEqual(ask(begin(12), price(11, 9), price(12, 9))[1:], [[1], NONE_SUCH])

    def test_none_such_ahead_of_out_of_range(self):
        for c in (0, 10, GREATEST):
            self.assertEqual(last(begin(4), price(4, c)), NONE_SUCH)

    def test_where_there_is_rock(self):
        self.assertEqual(ask(begin(4), rock(1), price(1, 4), price(1, 5), norock(1), price(1, 6))[2:],
                         [[1], [4], [0], [5]])


class NothingChanged(unittest.TestCase):
    SETUPS = (
        [begin(2)],
        [begin(6), low(1, 4, 7), low(2, 2, 20), rock(3), price(1, 9), price(3, 4)],
        [begin(8), *EIGHT, rock(0), price(7, 3)],
        [begin(4), *[rock(s) for s in range(4)], low(0, 3, 2)],
    )

    ROOMS = (0, 1, 7, 159, 160, 161, GREATEST)
    ROWS = ((), (0,), (1,), (0, 1), (0, 1, 3), range(8), (1, 0), (0, 0), (3,), (GREATEST_IN_ROW,), range(40), FAR_ROW)
    PLACES = (*range(13), GREATEST)

    def all_looks(self):
        found = [*LOOKS, BYEND, STATE, *[fewestfor(k) for k in self.ROOMS]]
        for row in self.ROWS:
            found += [hits(*row), missed(*row), leastroom(*row)]
            found += [call(k, *row) for call in (carries, why, share) for k in self.ROOMS]
        for place in self.PLACES:
            found += [without(place), ifrock(place), at(place), look(place)]
        return found

    def test_by_what_is_refused(self):
        tried = [begin(0), begin(13), low(0, 12), low(1, 0), low(0, 0, 0), low(0, 1, 21), low(0, 0, 1), drop(8), drop(0),
                 water(8, 5), water(0, 0), water(0, 21), rock(12), norock(12), price(12, 1), price(0, 0), price(0, 10),
                 *[rock(s) for s in range(8)], *[norock(s) for s in range(8)]]
        for setup in self.SETUPS:
            before = reveal(*setup)
            for call in tried:
                if last(*setup, call)[0] < 0:
                    self.assertEqual(reveal(*setup, call), before, call)

    def test_by_looking_refused_or_not(self):
        looks = self.all_looks()
        self.assertEqual({call[0] for call in looks}, {7, 8, 9, 10, *range(11, 24)})
        for setup in self.SETUPS:
            before = overview(*setup)
            for call in looks:
                self.assertEqual(overview(*setup, call), before, call)

    def test_by_many_looks_on_one_line(self):
        looks = self.all_looks()
        for setup in self.SETUPS:
            before = reveal(*setup)
            for start in range(0, len(looks), 100):
                some = looks[start:start + 100]
                self.assertEqual(reveal(*setup, *some), before)
                self.assertEqual(behind(setup, *some, *some), behind(setup, *some) * 2)

    def test_by_asking_what_would_be(self):
        setup = [begin(5), low(0, 2, 4), low(2, 4, 6), rock(1), price(2, 7)]
        for call in (without(0), without(1), without(2), ifrock(0), ifrock(1), ifrock(2), ifrock(5)):
            self.assertEqual(reveal(*setup, call), reveal(*setup), call)
        self.assertEqual(behind(setup, ifrock(2), norock(2), rock(2), without(0), drop(1), look(0), drop(0), drop(0)),
                         [[2], ALREADY_SO, [2], [1], [1], [0, 2, 4], [0], NONE_SUCH])

    def test_the_payments_leave_the_prices(self):
        calls = [begin(3), low(0, 1), low(1, 2), price(1, 5), PAYS, PAYS, CHEAPEST, APART, price(1, 1)]
        self.assertEqual(ask(*calls)[4:], [[2, 1, 1], [2, 1, 1], [2, 0, 2], [1, 0], [5]])


if __name__ == "__main__":
    unittest.main()
