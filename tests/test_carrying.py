"""The calls about water: missed, carries, why, share, leastroom, fewestfor. All answers are worked by hand."""

import unittest

from helper import (
    ALREADY_SO, CANNOT_BE, FEWEST, GREATEST, GREATEST_IN_ROW, OUT_OF_RANGE, begin, behind, carries, drop, fewestfor,
    last, leastroom, low, missed, price, rock, share, water, why,
)

# 0 shares station 2 with 1, and 1 shares station 4 with 2.
CHAIN = [begin(6), low(0, 2, 5), low(2, 4, 3), low(4, 5, 7)]

# All the water that there can be, at one station.
FULL = [begin(2), *[low(0, 0, 20)] * 8]

WRONG_ROOMS = (0, 161, 162, 65535, 65536 + 1, GREATEST)


def wrong_rows(n, rocky):
    """Rows that aren't culverts of a road of n stations, with rock at one that is neither the first nor the last."""
    end = n - 1
    yield from ((end, 0), (0, 0), (0, end, end), (0, end, 0), (end, end))
    yield from ((rocky,), (0, rocky), (rocky, end), (0, rocky, end))
    for none in (n, n + 1, GREATEST_IN_ROW):
        yield from ((none,), (0, none), (none, 0), (0, end, none))
    yield from (range(40), [0] * 40, [end] * 40, [GREATEST_IN_ROW] * 40, range(39, -1, -1))
    yield range(GREATEST_IN_ROW - 39, GREATEST_IN_ROW + 1)


class Missed(unittest.TestCase):
    def test_how_many_then_these(self):
        for row, found in (((), [3, 0, 1, 2]), ((0,), [2, 1, 2]), ((1,), [2, 1, 2]), ((2,), [1, 2]), ((3,), [2, 0, 2]),
                           ((4,), [1, 0]), ((5,), [2, 0, 1]), ((0, 5), [1, 1]), ((0, 4), [0]), ((2, 5), [0]),
                           ((0, 1, 2, 3, 4, 5), [0])):
            self.assertEqual(last(*CHAIN, missed(*row)), found, row)

    def test_rising_by_number_not_by_their_ends(self):
        setup = [begin(6), low(4, 5), low(0, 1), low(2, 3)]
        self.assertEqual(behind(setup, missed(), missed(2), missed(5)), [[3, 0, 1, 2], [2, 0, 1], [2, 1, 2]])

    def test_rows_that_are_no_culverts(self):
        for row in wrong_rows(6, 3):
            self.assertEqual(last(*CHAIN, rock(3), missed(*row)), OUT_OF_RANGE, row)


class Carries(unittest.TestCase):
    def test_all_water_goes_or_not(self):
        for k, row, found in ((10, (0, 4), 1), (9, (0, 4), 0), (8, (2, 5), 1), (7, (2, 5), 0), (160, (0, 5), 0),
                              (160, (2,), 0), (160, (), 0), (4, range(6), 1), (3, range(6), 0), (7, (0, 2, 4), 1)):
            self.assertEqual(last(*CHAIN, carries(k, *row)), [found], (k, row))

    def test_each_stretch_alone_goes_but_not_together(self):
        setup = [begin(4), low(0, 2, 6), low(1, 3, 6)]
        self.assertEqual(behind(setup, carries(6, 1), carries(11, 1), carries(12, 1), carries(6, 1, 2)),
                         [[0], [0], [1], [1]])

    def test_room_from_1_to_160(self):
        self.assertEqual(behind([begin(2), low(0, 0, 1)], carries(1, 0), carries(2, 0), carries(160, 0)), [[1]] * 3)
        self.assertEqual(behind(FULL, carries(160, 0), carries(159, 0), carries(1, 0)), [[1], [0], [0]])
        for k in WRONG_ROOMS:
            self.assertEqual(last(*CHAIN, carries(k, 0, 4)), OUT_OF_RANGE)
            self.assertEqual(last(begin(2), carries(k)), OUT_OF_RANGE)

    def test_rows_that_are_no_culverts(self):
        for row in wrong_rows(6, 3):
            for k in (0, 1, 160, 161):
                self.assertEqual(last(*CHAIN, rock(3), carries(k, *row)), OUT_OF_RANGE, row)


class Why(unittest.TestCase):
    def test_the_first_two_stations_the_water_and_what_is_taken(self):
        for k, row, found in ((9, (0, 4), [1, 5, 10, 9]), (7, (0, 4), [0, 5, 15, 14]), (4, (0, 4), [0, 2, 5, 4]),
                              (160, (0, 5), [1, 4, 3, 0]), (160, (), [0, 2, 5, 0]), (3, range(6), [4, 5, 7, 6]),
                              (160, (2,), [3, 5, 7, 0]), (1, (5,), [0, 2, 5, 0])):
            self.assertEqual(last(*CHAIN, why(k, *row)), found, (k, row))

    def test_by_the_lesser_first_one_then_the_second(self):
        setup = [begin(6), low(1, 4, 9), low(3, 3, 5)]
        self.assertEqual(behind(setup, why(4, 3), why(4, 2, 3), why(4, 1, 2, 3), why(4, 1, 2, 3, 4)),
                         [[0, 3, 5, 4], [0, 4, 14, 8], [0, 4, 14, 12], [3, 3, 5, 4]])

    def test_stations_need_be_no_ends_nor_without_rock(self):
        self.assertEqual(behind([begin(5), low(3, 3, 2), rock(0)], why(1), why(1, 1), why(1, 2, 3)),
                         [[0, 3, 2, 0], [0, 3, 2, 1], [3, 3, 2, 1]])

    def test_it_does(self):
        for k, row in ((10, (0, 4)), (11, (0, 4)), (160, (0, 4)), (8, (2, 5)), (4, range(6))):
            self.assertEqual(last(*CHAIN, why(k, *row)), ALREADY_SO, (k, row))

    def test_out_of_range_ahead_of_already_so(self):
        for k in WRONG_ROOMS:
            self.assertEqual(last(begin(5), why(k, 0)), OUT_OF_RANGE)
            self.assertEqual(last(*CHAIN, why(k, 0, 4)), OUT_OF_RANGE)
        for row in wrong_rows(6, 3):
            self.assertEqual(last(begin(6), rock(3), why(160, *row)), OUT_OF_RANGE, row)
            self.assertEqual(last(*CHAIN, rock(3), why(1, *row)), OUT_OF_RANGE, row)


class Share(unittest.TestCase):
    def test_how_many_then_each_stretch_culvert_and_amount(self):
        self.assertEqual(last(*CHAIN, share(10, 0, 4)), [3, 0, 0, 5, 1, 4, 3, 2, 4, 7])
        self.assertEqual(last(*CHAIN, share(8, 2, 5)), [3, 0, 2, 5, 1, 2, 3, 2, 5, 7])
        self.assertEqual(last(*CHAIN, share(4, 0, 2, 4, 5)), [5, 0, 0, 4, 0, 2, 1, 1, 2, 3, 2, 4, 4, 2, 5, 3])

    def test_one_stretch_by_several_culverts(self):
        setup = [begin(4), low(0, 3, 10)]
        self.assertEqual(behind(setup, share(4, 0, 1, 3), share(5, 0, 1, 3), share(9, 0, 1, 3), share(10, 0, 1, 3)),
                         [[3, 0, 0, 4, 0, 1, 4, 0, 3, 2], [2, 0, 0, 5, 0, 1, 5], [2, 0, 0, 9, 0, 1, 1], [1, 0, 0, 10]])

    def test_by_their_ends(self):
        self.assertEqual(last(begin(4), low(0, 3, 5), low(0, 1, 5), share(5, 1, 2)), [2, 1, 1, 5, 0, 2, 5])
        self.assertEqual(last(begin(4), low(0, 3, 5), low(0, 1, 3), share(5, 1, 2)), [3, 1, 1, 3, 0, 1, 2, 0, 2, 3])

    def test_of_like_ends_by_number(self):
        self.assertEqual(last(begin(4), low(0, 3, 5), low(1, 3, 5), share(5, 1, 2)), [2, 0, 1, 5, 1, 2, 5])
        self.assertEqual(last(begin(4), low(1, 3, 5), low(0, 3, 5), share(5, 1, 2)), [2, 0, 1, 5, 1, 2, 5])

    def test_culverts_are_told_by_their_stations(self):
        self.assertEqual(last(begin(12), low(9, 11, 20), share(10, 3, 10, 11)), [2, 0, 10, 10, 0, 11, 10])

    def test_it_does_not_all_go(self):
        for k, row in ((9, (0, 4)), (7, (2, 5)), (160, (0, 5)), (160, ()), (3, range(6))):
            self.assertEqual(last(*CHAIN, share(k, *row)), CANNOT_BE, (k, row))

    def test_out_of_range_ahead_of_it_can_not_be(self):
        for k in WRONG_ROOMS:
            self.assertEqual(last(*CHAIN, share(k)), OUT_OF_RANGE)
            self.assertEqual(last(*CHAIN, share(k, 0, 4)), OUT_OF_RANGE)
        for row in wrong_rows(6, 3):
            for k in (1, 160):
                self.assertEqual(last(*CHAIN, rock(3), share(k, *row)), OUT_OF_RANGE, row)


class LeastRoom(unittest.TestCase):
    def test_the_least_room(self):
        for row, found in (((0, 4), 10), ((2, 5), 8), ((2, 4), 8), (range(6), 4), ((0, 2, 4), 7), ((0, 4, 5), 5),
                           ((4,), -33), ((2, 3, 5), 7)):
            self.assertEqual(last(*CHAIN, leastroom(*row)), [found], row)

    def test_from_1_to_160(self):
        self.assertEqual(behind([begin(2), low(0, 1, 1)], leastroom(0), leastroom(1), leastroom(0, 1)), [[1]] * 3)
        self.assertEqual(behind(FULL, leastroom(0), leastroom(0, 1), water(7, 19), leastroom(0)),
                         [[160], [160], [20], [159]])

    def test_rounded_up(self):
        setup = [begin(3), low(0, 2, 7)]
        self.assertEqual(behind(setup, leastroom(0, 1, 2), leastroom(0, 2), leastroom(1)), [[3], [4], [7]])
        self.assertEqual(behind(setup, water(0, 6), leastroom(0, 1, 2), leastroom(0, 2)), [[7], [2], [3]])

    def test_by_none(self):
        for row in ((), (0,), (2,), (0, 5), (0, 1, 2, 3), (3, 4, 5)):
            self.assertEqual(last(*CHAIN, leastroom(*row)), CANNOT_BE, row)

    def test_out_of_range_ahead_of_it_can_not_be(self):
        for row in wrong_rows(6, 3):
            self.assertEqual(last(*CHAIN, rock(3), leastroom(*row)), OUT_OF_RANGE, row)
            self.assertEqual(last(*CHAIN, rock(3), low(3, 3), leastroom(*row)), OUT_OF_RANGE, row)


class FewestFor(unittest.TestCase):
    def test_how_few_then_these(self):
        for k, found in ((160, [2, 0, 4]), (10, [2, 0, 4]), (9, [2, 2, 4]), (8, [2, 2, 4]), (7, [3, 0, 2, 4]),
                         (5, [3, 0, 4, 5]), (4, [4, 0, 2, 4, 5]), (3, CANNOT_BE), (1, CANNOT_BE)):
            self.assertEqual(last(*CHAIN, fewestfor(k)), found, k)

    def test_of_like_ones_the_row_that_is_ahead(self):
        setup = [begin(8), low(1, 6, 10)]
        self.assertEqual(behind(setup, fewestfor(10), fewestfor(9), fewestfor(5), fewestfor(4), fewestfor(2)),
                         [[1, 1], [2, 1, 2], [2, 1, 2], [3, 1, 2, 3], [5, 1, 2, 3, 4, 5]])
        self.assertEqual(last(begin(8), low(0, 3, 4), low(2, 5, 4), low(4, 7, 4), fewestfor(6)), [2, 2, 4])

    def test_not_where_there_is_rock(self):
        self.assertEqual(last(*CHAIN, rock(2), fewestfor(9)), [3, 0, 3, 4])
        self.assertEqual(last(*CHAIN, rock(4), fewestfor(6)), CANNOT_BE)
        self.assertEqual(last(*CHAIN, rock(4), rock(5), fewestfor(160)), CANNOT_BE)

    def test_prices_are_nothing_to_it(self):
        self.assertEqual(last(*CHAIN, price(2, 9), price(4, 9), fewestfor(9)), [2, 2, 4])

    def test_with_room_enough_they_are_the_fewest(self):
        for setup in (CHAIN, FULL, [begin(12)], [begin(12), *[low(s, s + 3, 20) for s in range(8)], rock(3)]):
            self.assertEqual(last(*setup, fewestfor(160)), last(*setup, FEWEST))

    def test_room_from_1_to_160(self):
        self.assertEqual(behind([begin(2), low(1, 1, 1)], fewestfor(1), fewestfor(160)), [[1, 1], [1, 1]])
        self.assertEqual(behind(FULL, fewestfor(160), fewestfor(159), fewestfor(1)), [[1, 0], CANNOT_BE, CANNOT_BE])
        for k in WRONG_ROOMS:
            self.assertEqual(last(*CHAIN, fewestfor(k)), OUT_OF_RANGE)
            self.assertEqual(last(begin(2), fewestfor(k)), OUT_OF_RANGE)

    def test_out_of_range_ahead_of_it_can_not_be(self):
        for k in WRONG_ROOMS:
            self.assertEqual(last(begin(2), rock(0), low(0, 0), fewestfor(k)), OUT_OF_RANGE)


def of_water(setup, k, *row):
    """What missed, carries, why, share and leastroom answer behind some calls."""
    return behind(setup, missed(*row), carries(k, *row), why(k, *row), share(k, *row), leastroom(*row))


class WhereItBreaks(unittest.TestCase):
    def test_a_stretch_of_one_station(self):
        setup = [begin(3), low(1, 1, 6)]
        self.assertEqual(of_water(setup, 6, 1), [[0], [1], ALREADY_SO, [1, 0, 1, 6], [6]])
        self.assertEqual(of_water(setup, 5, 1), [[0], [0], [0, 1, 6, 5], CANNOT_BE, [6]])
        self.assertEqual(of_water(setup, 160, 0, 2), [[1, 0], [0], [1, 1, 6, 0], CANNOT_BE, CANNOT_BE])
        self.assertEqual(behind(setup, fewestfor(6), fewestfor(5)), [[1, 1], CANNOT_BE])

    def test_rock_there(self):
        setup = [begin(3), low(1, 1, 6), rock(1)]
        self.assertEqual(of_water(setup, 160, 1), [OUT_OF_RANGE] * 5)
        self.assertEqual(of_water(setup, 160, 0, 2), [[1, 0], [0], [1, 1, 6, 0], CANNOT_BE, CANNOT_BE])
        self.assertEqual(behind(setup, fewestfor(160), drop(0), fewestfor(160)), [CANNOT_BE, [0], [0]])

    def test_two_stretches_that_share_rock_alone(self):
        setup = [begin(5), low(0, 2, 4), low(2, 4, 4)]
        self.assertEqual(behind(setup, fewestfor(8), fewestfor(7)), [[1, 2], [2, 0, 2]])
        self.assertEqual(behind([*setup, rock(2)], fewestfor(8), fewestfor(4), fewestfor(3)),
                         [[2, 0, 3], [2, 0, 3], [4, 0, 1, 3, 4]])
        self.assertEqual(of_water([*setup, rock(2)], 4, 1, 3), [[0], [1], ALREADY_SO, [2, 0, 1, 4, 1, 3, 4], [4]])

    def test_stretches_with_one_end(self):
        setup = [begin(5), low(0, 4, 3), low(3, 4, 3), low(4, 4, 3)]
        self.assertEqual(of_water(setup, 3, 0, 3, 4), [[0], [1], ALREADY_SO, [3, 0, 0, 3, 1, 3, 3, 2, 4, 3], [3]])
        self.assertEqual(of_water(setup, 5, 3, 4), [[0], [1], ALREADY_SO, [4, 0, 3, 3, 1, 3, 2, 1, 4, 1, 2, 4, 3], [5]])
        self.assertEqual(behind(setup, fewestfor(9), fewestfor(6), fewestfor(5), fewestfor(3)),
                         [[1, 4], [2, 0, 4], [2, 3, 4], [3, 0, 3, 4]])

    def test_water_that_just_goes_and_one_more(self):
        setup = [begin(4), low(1, 2, 7)]
        self.assertEqual(of_water(setup, 7, 1), [[0], [1], ALREADY_SO, [1, 0, 1, 7], [7]])
        self.assertEqual(of_water([*setup, water(0, 8)], 7, 1), [[0], [0], [0, 2, 8, 7], CANNOT_BE, [8]])
        self.assertEqual(of_water([*setup, water(0, 14)], 7, 1, 2), [[0], [1], ALREADY_SO, [2, 0, 1, 7, 0, 2, 7], [7]])
        self.assertEqual(of_water([*setup, water(0, 15)], 7, 1, 2), [[0], [0], [0, 2, 15, 14], CANNOT_BE, [8]])
        self.assertEqual(behind(setup, fewestfor(7), water(0, 8), fewestfor(7), water(0, 15), fewestfor(7)),
                         [[1, 1], [7], [2, 1, 2], [8], CANNOT_BE])

    def test_a_culvert_that_no_stretch_has(self):
        setup = [begin(5), low(1, 2, 4)]
        self.assertEqual(of_water(setup, 4, 0, 1, 4), [[0], [1], ALREADY_SO, [1, 0, 1, 4], [4]])
        self.assertEqual(of_water(setup, 3, 0, 1, 4), [[0], [0], [1, 2, 4, 3], CANNOT_BE, [4]])
        self.assertEqual(of_water(setup, 160, 0, 4), [[1, 0], [0], [1, 2, 4, 0], CANNOT_BE, CANNOT_BE])

    def test_no_stretches(self):
        for row in ((), (0,), (4,), (0, 1, 2, 3, 4)):
            for k in (1, 160):
                self.assertEqual(of_water([begin(5)], k, *row), [[0], [1], ALREADY_SO, [0], [1]])
        self.assertEqual(behind([begin(5)], fewestfor(1), fewestfor(160)), [[0], [0]])

    def test_a_row_that_goes_on_from_another(self):
        setup = [begin(5), low(0, 1, 4)]
        self.assertEqual(of_water(setup, 4, 0), of_water(setup, 4, 0, 3))
        self.assertEqual(of_water(setup, 4, 0, 1), [[0], [1], ALREADY_SO, [1, 0, 0, 4], [2]])
        self.assertEqual(behind(setup, fewestfor(4), fewestfor(3)), [[1, 0], [2, 0, 1]])

    def test_the_last_station(self):
        for n in (2, 12):
            end = n - 1
            setup = [begin(n), low(end, end, 9)]
            self.assertEqual(of_water(setup, 9, end), [[0], [1], ALREADY_SO, [1, 0, end, 9], [9]])
            self.assertEqual(of_water(setup, 8, end), [[0], [0], [0, end, 9, 8], CANNOT_BE, [9]])
            self.assertEqual(of_water(setup, 8, 0, end), [[0], [0], [1, end, 9, 8], CANNOT_BE, [9]])
            self.assertEqual(of_water(setup, 9, n), [OUT_OF_RANGE] * 5)
            self.assertEqual(behind(setup, fewestfor(9), fewestfor(8)), [[1, end], CANNOT_BE])

    def test_all_rock(self):
        for n in (2, 12):
            bare = [begin(n), *[rock(s) for s in range(n)]]
            self.assertEqual(of_water(bare, 5), [[0], [1], ALREADY_SO, [0], [1]])
            self.assertEqual(of_water(bare, 5, 0), [OUT_OF_RANGE] * 5)
            self.assertEqual(of_water(bare, 5, n - 1), [OUT_OF_RANGE] * 5)
            self.assertEqual(last(*bare, fewestfor(1)), [0])
            wet = [*bare, low(0, n - 1, 3)]
            self.assertEqual(of_water(wet, 160), [[1, 0], [0], [0, n - 1, 3, 0], CANNOT_BE, CANNOT_BE])
            self.assertEqual(last(*wet, fewestfor(160)), CANNOT_BE)


if __name__ == "__main__":
    unittest.main()
