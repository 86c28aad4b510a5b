"""The calls that look: without, ifrock, at, look, byend, state. All answers are worked by hand."""

import unittest

from helper import (
    BYEND, CANNOT_BE, FEWEST, GREATEST, NONE_SUCH, STATE, at, begin, behind, drop, ifrock, last, look, low, norock,
    price, rock, water, without,
)

# 0 shares station 2 with 1, and 1 shares station 4 with 2.
CHAIN = [begin(6), low(0, 2, 5), low(2, 4, 3), low(4, 5, 7)]

FAR = (65535, 65536, GREATEST - 1, GREATEST)


class Without(unittest.TestCase):
    def test_how_many_the_fewest_would_be(self):
        self.assertEqual(behind(CHAIN, without(0), without(1), without(2)), [[1], [2], [1]])

    def test_the_last_one_gone_needs_none(self):
        self.assertEqual(last(begin(2), low(0, 1), without(0)), [0])

    def test_how_many_alone_not_where(self):
        self.assertEqual(behind([begin(6), low(3, 3), low(5, 5)], without(0), without(1)), [[1], [1]])

    def test_none_would_do(self):
        setup = [begin(4), low(1, 1), low(0, 3), low(2, 2), rock(1)]
        self.assertEqual(behind(setup, without(0), without(1), without(2)), [[1], CANNOT_BE, CANNOT_BE])
        self.assertEqual(behind([*setup, rock(2)], without(0), without(1), without(2)), [CANNOT_BE] * 3)

    def test_no_such_stretch(self):
        self.assertEqual(last(begin(6), without(0)), NONE_SUCH)
        for i in (3, 4, 8, *FAR):
            self.assertEqual(last(*CHAIN, without(i)), NONE_SUCH)
        eight = [begin(12), *[low(s, s) for s in range(8)]]
        self.assertEqual(behind(eight, without(7), without(8)), [[7], NONE_SUCH])

    def test_none_such_ahead_of_it_can_not_be(self):
        setup = [begin(2), low(0, 0), low(0, 0), rock(0)]
        self.assertEqual(behind(setup, without(1), without(2), without(GREATEST)), [CANNOT_BE, NONE_SUCH, NONE_SUCH])


class IfRock(unittest.TestCase):
    def test_how_many_the_fewest_would_be(self):
        self.assertEqual(behind(CHAIN, *[ifrock(s) for s in range(6)]), [[2]] * 6)
        self.assertEqual(behind([*CHAIN, rock(2)], *[ifrock(s) for s in range(6)]), [[2], [2], [2], [2], [3], [2]])

    def test_where_there_is_rock_all_is_as_it_is(self):
        self.assertEqual(behind([*CHAIN, rock(2), rock(4)], FEWEST, ifrock(2), ifrock(4)), [[3, 0, 3, 5], [3], [3]])

    def test_none_would_do(self):
        self.assertEqual(behind([begin(2), low(0, 0)], ifrock(0), ifrock(1)), [CANNOT_BE, [1]])
        self.assertEqual(behind([begin(2), low(0, 1)], ifrock(0), rock(0), ifrock(0), ifrock(1)),
                         [[1], [1], [1], CANNOT_BE])
        self.assertEqual(behind([begin(3), low(1, 1), rock(1)], ifrock(0), ifrock(1), ifrock(2)), [CANNOT_BE] * 3)

    def test_no_such_station(self):
        for s in (6, 7, 12, *FAR):
            self.assertEqual(last(*CHAIN, ifrock(s)), NONE_SUCH)
        self.assertEqual(behind([begin(12)], ifrock(0), ifrock(11), ifrock(12)), [[0], [0], NONE_SUCH])

    def test_none_such_ahead_of_it_can_not_be(self):
        self.assertEqual(behind([begin(2), low(0, 0), rock(0)], ifrock(1), ifrock(2), ifrock(GREATEST)),
                         [CANNOT_BE, NONE_SUCH, NONE_SUCH])


class At(unittest.TestCase):
    def test_rock_price_and_how_many_stretches(self):
        setup = [*CHAIN, rock(2), price(2, 7), price(5, 9)]
        self.assertEqual(behind(setup, *[at(s) for s in range(6)]),
                         [[0, 1, 1], [0, 1, 1], [1, 7, 2], [0, 1, 1], [0, 1, 2], [0, 9, 1]])

    def test_rock_comes_and_goes_and_the_price_stays(self):
        self.assertEqual(behind([begin(3), price(1, 4)], at(1), rock(1), at(1), norock(1), at(1)),
                         [[0, 4, 0], [1], [1, 4, 0], [0], [0, 4, 0]])

    def test_eight_stretches(self):
        self.assertEqual(behind([begin(12), *[low(0, 11)] * 8], at(0), drop(3), at(11)), [[0, 1, 8], [7], [0, 1, 7]])

    def test_no_such_station(self):
        for s in (6, 7, 12, *FAR):
            self.assertEqual(last(*CHAIN, at(s)), NONE_SUCH)
        self.assertEqual(behind([begin(12)], at(11), at(12)), [[0, 1, 0], NONE_SUCH])
        self.assertEqual(behind([begin(2)], at(0), at(1), at(2)), [[0, 1, 0], [0, 1, 0], NONE_SUCH])


class Look(unittest.TestCase):
    def test_from_where_to_where_and_its_water(self):
        self.assertEqual(behind(CHAIN, look(0), look(1), look(2)), [[0, 2, 5], [2, 4, 3], [4, 5, 7]])

    def test_what_is_changed_is_seen(self):
        self.assertEqual(behind(CHAIN, water(1, 20), look(1), drop(0), look(0), look(1), look(2)),
                         [[3], [2, 4, 20], [2], [2, 4, 20], [4, 5, 7], NONE_SUCH])

    def test_no_such_stretch(self):
        self.assertEqual(last(begin(6), look(0)), NONE_SUCH)
        for i in (3, 4, 8, *FAR):
            self.assertEqual(last(*CHAIN, look(i)), NONE_SUCH)
        eight = [begin(12), *[low(s, s + 1, s + 1) for s in range(8)]]
        self.assertEqual(behind(eight, look(7), look(8)), [[7, 8, 8], NONE_SUCH])


class ByEnd(unittest.TestCase):
    def test_how_many_then_these(self):
        self.assertEqual(last(*CHAIN, BYEND), [3, 0, 1, 2])
        self.assertEqual(last(begin(6), low(4, 5), low(0, 1), low(2, 3), low(0, 4), BYEND), [4, 1, 2, 3, 0])

    def test_by_where_they_go_to_not_from(self):
        self.assertEqual(last(begin(6), low(0, 5), low(1, 4), low(2, 3), BYEND), [3, 2, 1, 0])

    def test_of_like_ones_by_number(self):
        self.assertEqual(last(begin(6), low(3, 4), low(0, 4), low(5, 5), low(4, 4), low(2, 4), BYEND), [5, 0, 1, 3, 4, 2])

    def test_rock_water_and_prices_are_nothing_to_it(self):
        setup = [begin(6), low(0, 5, 1), low(1, 4, 20), rock(5), rock(4), price(1, 9)]
        self.assertEqual(last(*setup, BYEND), [2, 1, 0])

    def test_renumbered_by_drop(self):
        self.assertEqual(last(begin(6), low(4, 5), low(0, 1), low(2, 3), drop(0), BYEND), [2, 0, 1])
        self.assertEqual(last(begin(6), low(4, 5), low(0, 1), low(2, 3), drop(1), BYEND), [2, 1, 0])


class State(unittest.TestCase):
    def test_stations_rock_stretches_and_water(self):
        self.assertEqual(last(*CHAIN, STATE), [0, 6, 0, 3, 15])
        self.assertEqual(last(*CHAIN, rock(1), rock(5), STATE), [0, 6, 2, 3, 15])
        self.assertEqual(last(*CHAIN, rock(1), rock(5), norock(1), drop(1), water(0, 20), STATE), [0, 6, 1, 2, 27])

    def test_new(self):
        for n in range(2, 13):
            self.assertEqual(last(begin(n), STATE), [0, n, 0, 0, 0])
        self.assertEqual(last(*CHAIN, rock(0), begin(4), STATE), [0, 4, 0, 0, 0])

    def test_all_there_can_be(self):
        setup = [begin(12), *[low(0, 11, 20)] * 8, *[rock(s) for s in range(12)]]
        self.assertEqual(last(*setup, STATE), [0, 12, 12, 8, 160])


def looks(*setup):
    """What without and look say of the first stretch, ifrock and at of the first station, and byend and state."""
    return behind(setup, without(0), look(0), ifrock(0), at(0), BYEND, STATE)


class WhereItBreaks(unittest.TestCase):
    def test_a_stretch_of_one_station(self):
        self.assertEqual(looks(begin(3), low(0, 0, 4)), [[0], [0, 0, 4], CANNOT_BE, [0, 1, 1], [1, 0], [0, 3, 0, 1, 4]])

    def test_rock_there(self):
        self.assertEqual(looks(begin(3), low(0, 0, 4), rock(0)),
                         [[0], [0, 0, 4], CANNOT_BE, [1, 1, 1], [1, 0], [0, 3, 1, 1, 4]])
        self.assertEqual(behind([begin(3), low(0, 0), low(1, 2), rock(0)], without(0), without(1), ifrock(1)),
                         [[1], CANNOT_BE, CANNOT_BE])

    def test_two_stretches_that_share_rock_alone(self):
        setup = [begin(5), low(0, 2), low(2, 4)]
        self.assertEqual(behind(setup, ifrock(2), ifrock(1), FEWEST), [[2], [1], [1, 2]])
        self.assertEqual(behind([*setup, rock(2)], without(0), without(1), ifrock(2), at(2)), [[1], [1], [2], [1, 1, 2]])

    def test_stretches_with_one_end(self):
        setup = [begin(5), low(0, 4), low(3, 4), low(4, 4)]
        self.assertEqual(behind(setup, BYEND, without(2), ifrock(3), ifrock(4), at(4), at(3)),
                         [[3, 0, 1, 2], [1], [1], CANNOT_BE, [0, 1, 3], [0, 1, 2]])

    def test_no_stretches(self):
        self.assertEqual(looks(begin(5)), [NONE_SUCH, NONE_SUCH, [0], [0, 1, 0], [0], [0, 5, 0, 0, 0]])
        self.assertEqual(looks(begin(5), low(0, 4), drop(0)), looks(begin(5)))

    def test_the_last_station(self):
        for n in (2, 12):
            end = n - 1
            setup = [begin(n), low(end, end, 3), low(0, end, 2)]
            self.assertEqual(behind(setup, at(end), ifrock(end), ifrock(n), at(n), look(0), look(1), without(0)),
                             [[0, 1, 2], CANNOT_BE, NONE_SUCH, NONE_SUCH, [end, end, 3], [0, end, 2], [1]])

    def test_all_rock(self):
        for n in (2, 12):
            bare = [begin(n), *[rock(s) for s in range(n)]]
            self.assertEqual(looks(*bare), [NONE_SUCH, NONE_SUCH, [0], [1, 1, 0], [0], [0, n, n, 0, 0]])
            wet = [*bare, low(0, n - 1, 3)]
            self.assertEqual(looks(*wet), [[0], [0, n - 1, 3], CANNOT_BE, [1, 1, 1], [1, 0], [0, n, n, 1, 3]])
            self.assertEqual(last(*wet, low(0, 0), without(0)), CANNOT_BE)

    def test_all_rock_but_one(self):
        setup = [begin(4), *[rock(s) for s in range(3)], low(0, 3), low(2, 3)]
        self.assertEqual(behind(setup, *[ifrock(s) for s in range(4)]), [[1], [1], [1], CANNOT_BE])


if __name__ == "__main__":
    unittest.main()
