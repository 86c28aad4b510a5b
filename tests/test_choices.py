"""The calls that choose: fewest, apart, cheapest, pays, hits. All answers are worked by hand."""

import unittest

from helper import (
    APART, CANNOT_BE, CHEAPEST, FEWEST, GREATEST_IN_ROW, LOOKS, OUT_OF_RANGE, PAYS, ask, begin, drop, hits, last, low,
    norock, price, rock, water,
)

# 0 shares station 2 with 1, and 1 shares station 4 with 2.
CHAIN = [begin(6), low(0, 2, 5), low(2, 4, 3), low(4, 5, 7)]


def looks(*calls):
    """What fewest, apart, cheapest and pays answer behind some calls."""
    return ask(*calls, *LOOKS)[len(calls):]


class Fewest(unittest.TestCase):
    def test_how_many_then_these(self):
        self.assertEqual(last(*CHAIN, FEWEST), [2, 0, 4])

    def test_of_like_ones_the_row_that_is_ahead(self):
        self.assertEqual(last(begin(6), low(1, 4), FEWEST), [1, 1])
        self.assertEqual(last(begin(6), low(1, 4), low(3, 5), FEWEST), [1, 3])
        self.assertEqual(last(begin(7), low(0, 3), low(2, 5), low(5, 6), FEWEST), [2, 0, 5])
        self.assertEqual(last(begin(8), low(0, 3), low(2, 5), low(4, 7), FEWEST), [2, 0, 4])

    def test_not_where_there_is_rock(self):
        self.assertEqual(last(*CHAIN, rock(0), FEWEST), [2, 1, 4])
        self.assertEqual(last(*CHAIN, rock(4), FEWEST), [2, 2, 5])
        self.assertEqual(last(*CHAIN, rock(2), rock(4), FEWEST), [3, 0, 3, 5])

    def test_prices_and_water_are_nothing_to_it(self):
        self.assertEqual(last(*CHAIN, price(0, 9), price(4, 9), water(0, 20), FEWEST), [2, 0, 4])

    def test_none_do(self):
        self.assertEqual(last(*CHAIN, rock(4), rock(5), FEWEST), CANNOT_BE)

    def test_eight_of_one_station_each(self):
        self.assertEqual(last(begin(12), *[low(s, s) for s in range(11, 3, -1)], FEWEST), [8, 4, 5, 6, 7, 8, 9, 10, 11])


class Apart(unittest.TestCase):
    def test_how_many_then_these(self):
        self.assertEqual(last(*CHAIN, APART), [2, 0, 2])

    def test_as_taken_not_by_number(self):
        self.assertEqual(last(begin(6), low(4, 5), low(0, 1), low(2, 3), APART), [3, 1, 2, 0])

    def test_by_their_ends_not_their_beginnings(self):
        self.assertEqual(last(begin(6), low(0, 5), low(1, 4), low(2, 3), APART), [1, 2])

    def test_of_like_ends_by_number(self):
        self.assertEqual(last(begin(4), low(0, 3), low(2, 3), APART), [1, 0])
        self.assertEqual(last(begin(4), low(2, 3), low(0, 3), APART), [1, 0])
        self.assertEqual(last(begin(4), low(0, 3), low(2, 3), drop(0), APART), [1, 0])

    def test_an_end_is_an_end_though_there_is_rock(self):
        self.assertEqual(last(begin(4), low(0, 3), low(1, 2), rock(2), rock(3), APART), [1, 1])

    def test_those_that_share_rock_alone_are_apart(self):
        self.assertEqual(last(*CHAIN, rock(2), APART), [2, 0, 1])
        self.assertEqual(last(*CHAIN, rock(2), rock(4), APART), [3, 0, 1, 2])

    def test_one_that_shares_with_several(self):
        calls = [begin(8), low(0, 1), low(2, 3), low(1, 5), low(4, 6), rock(4)]
        self.assertEqual(last(*calls, APART), [3, 0, 1, 3])

    def test_none_do(self):
        self.assertEqual(last(*CHAIN, rock(4), rock(5), APART), CANNOT_BE)


class Cheapest(unittest.TestCase):
    def test_what_they_cost_then_these(self):
        self.assertEqual(last(*CHAIN, CHEAPEST), [2, 0, 4])
        self.assertEqual(last(*CHAIN, price(2, 4), price(4, 9), CHEAPEST), [3, 0, 3, 5])
        self.assertEqual(last(*CHAIN, price(0, 5), price(1, 4), price(2, 3), price(4, 6), price(5, 4), CHEAPEST), [7, 2, 5])

    def test_of_like_ones_the_row_that_is_ahead(self):
        self.assertEqual(last(begin(3), low(0, 1), low(1, 2), price(1, 2), CHEAPEST), [2, 0, 2])
        self.assertEqual(last(begin(3), low(0, 2), price(0, 4), price(1, 3), price(2, 3), CHEAPEST), [3, 1])
        self.assertEqual(last(begin(5), low(0, 2), low(2, 4), price(0, 3), price(1, 3), price(2, 4), CHEAPEST), [4, 0, 3])

    def test_not_where_there_is_rock(self):
        self.assertEqual(last(begin(3), low(0, 2), price(0, 9), price(2, 8), rock(1), CHEAPEST), [8, 2])

    def test_a_price_told_at_rock_holds_when_the_rock_is_gone(self):
        calls = [begin(3), low(0, 1), rock(0), price(0, 2), price(1, 3)]
        self.assertEqual(ask(*calls, CHEAPEST, norock(0), CHEAPEST)[5:], [[3, 1], [0], [2, 0]])

    def test_none_do(self):
        self.assertEqual(last(*CHAIN, rock(4), rock(5), CHEAPEST), CANNOT_BE)


class Pays(unittest.TestCase):
    def test_together_then_each(self):
        self.assertEqual(last(*CHAIN, PAYS), [2, 1, 0, 1])
        self.assertEqual(last(*CHAIN, price(2, 4), price(4, 9), PAYS), [3, 1, 1, 1])

    def test_so_much_less_is_left(self):
        calls = [price(0, 5), price(1, 4), price(2, 3), price(3, 9), price(4, 6), price(5, 4)]
        self.assertEqual(last(*CHAIN, *calls, PAYS), [7, 3, 0, 4])
        calls = [price(0, 2), price(1, 4), price(2, 3), price(3, 9), price(4, 6), price(5, 6)]
        self.assertEqual(last(*CHAIN, *calls, PAYS), [8, 2, 1, 5])

    def test_told_by_number_though_paid_by_their_ends(self):
        calls = [begin(4), low(1, 3), low(0, 1), price(0, 9), price(1, 4), price(2, 6), price(3, 7)]
        self.assertEqual(last(*calls, PAYS), [4, 0, 4])

    def test_of_like_ends_by_number(self):
        calls = [begin(4), price(0, 5), price(1, 5), price(2, 2), price(3, 3)]
        self.assertEqual(last(*calls, low(0, 3), low(2, 3), PAYS), [2, 2, 0])
        self.assertEqual(last(*calls, low(2, 3), low(0, 3), PAYS), [2, 2, 0])

    def test_at_stations_without_rock_alone(self):
        self.assertEqual(last(begin(3), low(0, 1), rock(0), price(1, 5), PAYS), [5, 5])
        calls = [begin(3), low(0, 1), low(1, 2), rock(1), price(0, 6), price(2, 7)]
        self.assertEqual(last(*calls, PAYS), [13, 6, 7])

    def test_none_do(self):
        self.assertEqual(last(*CHAIN, rock(4), rock(5), PAYS), CANNOT_BE)


class Hits(unittest.TestCase):
    def test_they_do_or_not(self):
        for row, found in (((0, 4), 1), ((2, 4), 1), ((2, 5), 1), ((0, 3, 5), 1), ((0, 1, 2, 3, 4, 5), 1),
                           ((0, 5), 0), ((2,), 0), ((), 0), ((3, 4), 0), ((0, 1, 2, 3), 0)):
            self.assertEqual(last(*CHAIN, hits(*row)), [found], row)

    def test_a_row_that_does_not_rise(self):
        for row in ((4, 0), (0, 0), (0, 4, 4), (0, 4, 3), (5, 0, 4), (2, 2, 4)):
            self.assertEqual(last(*CHAIN, hits(*row)), OUT_OF_RANGE, row)

    def test_a_station_with_rock(self):
        for row in ((1,), (0, 1), (1, 4), (0, 1, 4)):
            self.assertEqual(last(*CHAIN, rock(1), hits(*row)), OUT_OF_RANGE, row)
        self.assertEqual(last(*CHAIN, rock(1), hits(0, 4)), [1])

    def test_a_station_that_is_not_there(self):
        for wrong in (6, 7, 12, GREATEST_IN_ROW):
            for row in ((wrong,), (0, wrong), (0, 4, wrong), (wrong, 0)):
                self.assertEqual(last(*CHAIN, hits(*row)), OUT_OF_RANGE, row)
        self.assertEqual(ask(begin(12), hits(11), hits(12))[1:], [[1], OUT_OF_RANGE])

    def test_rows_of_40_numbers(self):
        for row in (range(40), [0] * 40, [GREATEST_IN_ROW] * 40, range(39, -1, -1), range(GREATEST_IN_ROW - 39, GREATEST_IN_ROW + 1)):
            self.assertEqual(ask(begin(12), hits(*row), hits(3), rock(2))[1:], [OUT_OF_RANGE, [1], [1]])

    def test_all_stations(self):
        self.assertEqual(ask(begin(12), low(0, 0), low(11, 11), hits(*range(12)), hits(*range(13)), hits(*range(11)))[3:],
                         [[1], OUT_OF_RANGE, [0]])

    def test_the_row_is_not_taken_for_calls(self):
        self.assertEqual(ask(begin(12), low(0, 0), hits(0, 4, 7), hits(4, 7, 9), FEWEST)[2:], [[1], [0], [1, 0]])


class WhereItBreaks(unittest.TestCase):
    def test_a_stretch_of_one_station(self):
        self.assertEqual(looks(begin(3), low(1, 1), price(1, 9)), [[1, 1], [1, 0], [9, 1], [9, 9]])
        self.assertEqual(ask(begin(3), low(1, 1), hits(1), hits(0), hits(2))[2:], [[1], [0], [0]])

    def test_rock_there(self):
        self.assertEqual(looks(begin(3), low(1, 1), low(0, 2), rock(1)), [CANNOT_BE] * 4)
        self.assertEqual(ask(begin(3), low(1, 1), rock(1), hits(), hits(0), hits(1), hits(0, 2))[3:],
                         [[0], [0], OUT_OF_RANGE, [0]])
        self.assertEqual(looks(begin(3), low(1, 1), low(0, 2), rock(1), drop(0)), [[1, 0], [1, 0], [1, 0], [1, 1]])

    def test_two_stretches_that_share_rock_alone(self):
        self.assertEqual(looks(begin(5), low(0, 2), low(2, 4), rock(2)), [[2, 0, 3], [2, 0, 1], [2, 0, 3], [2, 1, 1]])
        self.assertEqual(looks(begin(5), low(0, 2), low(2, 4)), [[1, 2], [1, 0], [1, 2], [1, 1, 0]])

    def test_stretches_with_one_end(self):
        self.assertEqual(looks(begin(5), low(0, 4), low(3, 4), low(4, 4)), [[1, 4], [1, 0], [1, 4], [1, 1, 0, 0]])
        self.assertEqual(looks(begin(5), low(0, 4), low(3, 4), low(4, 4), price(4, 5)),
                         [[1, 4], [1, 0], [5, 4], [5, 1, 0, 4]])

    def test_two_culverts_cheaper_than_one(self):
        self.assertEqual(looks(begin(3), low(0, 1), low(1, 2), price(1, 3)), [[1, 1], [1, 0], [2, 0, 2], [2, 1, 1]])

    def test_a_culvert_that_no_stretch_has(self):
        self.assertEqual(ask(begin(5), low(1, 2), hits(0, 1, 4), hits(0, 4), hits(4))[2:], [[1], [0], [0]])
        self.assertEqual(ask(begin(5), hits(4), hits(0, 1, 2, 3, 4))[1:], [[1], [1]])

    def test_no_stretches(self):
        self.assertEqual(looks(begin(5)), [[0], [0], [0], [0]])
        self.assertEqual(ask(begin(5), hits(), hits(1), low(0, 4), hits(), drop(0), hits())[1:],
                         [[1], [1], [0], [0], [0], [1]])

    def test_a_row_that_goes_on_from_another(self):
        self.assertEqual(ask(begin(5), low(0, 1), hits(0), hits(0, 3), FEWEST, CHEAPEST)[2:], [[1], [1], [1, 0], [1, 0]])

    def test_the_last_station(self):
        for n in (2, 12):
            end = n - 1
            self.assertEqual(looks(begin(n), low(end, end), price(end, 4)), [[1, end], [1, 0], [4, end], [4, 4]])
            self.assertEqual(looks(begin(n), low(0, end), rock(end)), [[1, 0], [1, 0], [1, 0], [1, 1]])
            self.assertEqual(ask(begin(n), low(end, end), hits(end), hits(end + 1), rock(end), hits(end), FEWEST)[2:],
                             [[1], OUT_OF_RANGE, [1], OUT_OF_RANGE, CANNOT_BE])

    def test_all_rock(self):
        for n in (2, 12):
            bare = [begin(n), *[rock(s) for s in range(n)]]
            self.assertEqual(looks(*bare), [[0], [0], [0], [0]])
            self.assertEqual(ask(*bare, hits(), hits(0), hits(n - 1))[n + 1:], [[1], OUT_OF_RANGE, OUT_OF_RANGE])
            self.assertEqual(looks(*bare, low(0, n - 1)), [CANNOT_BE] * 4)
            self.assertEqual(ask(*bare, low(0, n - 1), hits(), hits(0))[n + 2:], [[0], OUT_OF_RANGE])


if __name__ == "__main__":
    unittest.main()
