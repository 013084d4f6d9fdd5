"""latest_departure and return_time."""

import unittest

from tests.requests import SEVEN, THREE, description, shops_at, told_by


class LatestDeparture(unittest.TestCase):
    def check(self, departure, shops, latest):
        told = told_by(departure, shops, ("latest_departure",), ("describe",), ("latest_departure",))
        self.assertEqual(told, [[latest], description(departure, shops), [latest]])

    def test_no_shops(self):
        for departure in (0, 10, 299):
            self.check(departure, [], 299)

    def test_above_at_and_below_the_present_departure(self):
        for departure in (0, 10, 11, 12, 13, 20, 299):
            self.check(departure, THREE, 12)

    def test_it_is_the_latest(self):
        told = told_by(0, THREE, ("set_departure", 12), ("best_route",), ("set_departure", 13), ("best_route",))
        self.assertEqual(told[1::2], [[40, 1, 0, 2], [-33]])

    def test_zero(self):
        for departure in (0, 1, 299):
            self.check(departure, shops_at((99, 99)), 0)
            self.check(departure, shops_at((-5, 5), (5, 15)), 0)
            self.check(departure, shops_at((0, 0)), 0)

    def test_none(self):
        for departure in (0, 1, 299):
            self.check(departure, shops_at((99, 98)), -33)
            self.check(departure, shops_at((-5, 5), (5, 14)), -33)
            self.check(departure, shops_at((-5, 14), (5, 5)), -33)
            self.check(departure, shops_at((0, 299), (-1, 0)), -33)

    def test_deadlines_of_299(self):
        self.check(0, shops_at((0, 299)), 299)
        self.check(0, shops_at((1, 299)), 298)
        self.check(0, shops_at((-99, 299)), 200)
        self.check(0, shops_at((99, 299), (-99, 299)), 2)
        self.check(0, shops_at((0, 299), (0, 299), (0, 299)), 299)
        self.check(0, SEVEN, 290)

    def test_not_by_the_best_route_of_the_present_departure(self):
        # Leaving at 0 the left shop comes first, but the right one first spares more.
        self.check(0, shops_at((-3, 299), (10, 16)), 6)
        self.check(0, shops_at((10, 299), (-3, 4)), 1)

    def test_the_shop_in_the_middle_decides(self):
        self.check(0, shops_at((2, 299), (5, 11), (9, 299)), 6)

    def test_turning_more_than_once(self):
        self.check(0, shops_at((-2, 5), (3, 10), (-4, 17), (9, 30), (-8, 299)), 3)
        self.check(0, shops_at((1, 1), (-1, 3), (2, 6), (-2, 10), (3, 15), (-3, 21), (4, 28)), 0)
        self.check(0, shops_at((1, 1), (-1, 3), (2, 6), (-2, 10), (3, 15), (-3, 21), (4, 27)), -33)


class ReturnTime(unittest.TestCase):
    def check(self, departure, shops, time):
        self.assertEqual(told_by(departure, shops, ("return_time",)), [[time]])

    def test_no_shops(self):
        for departure in (0, 10, 299):
            self.check(departure, [], departure)

    def test_last_shop_on_the_left(self):
        self.check(10, THREE, 50)
        self.check(0, shops_at((-99, 99)), 198)
        self.check(0, shops_at((-3, 299), (10, 15)), 26)

    def test_last_shop_on_the_right(self):
        self.check(0, shops_at((-3, 299), (10, 16)), 26)
        self.check(0, shops_at((8, 299), (-5, 299)), 26)
        self.check(200, shops_at((99, 299)), 398)

    def test_last_shop_at_position_0(self):
        self.check(7, shops_at((0, 7)), 7)
        self.check(7, shops_at((0, 7), (0, 299)), 7)

    def test_not_on_time(self):
        self.check(10, shops_at((-5, 14)), -33)
        self.check(13, THREE, -33)
        self.check(0, shops_at((-5, 14), (5, 14)), -33)
        self.check(7, shops_at((0, 6)), -33)

    def test_no_deadline_for_the_way_back(self):
        self.check(0, shops_at((5, 5)), 10)

    def test_by_the_first_of_several_best_routes(self):
        # Both 0, 2, 1 and 0, 1, 2 are finished at 16, but they end at 6 and at -4.
        shops = shops_at((1, 1), (6, 299), (-4, 299))
        told = told_by(0, shops, ("best_route",), ("return_time",), ("check_route", [0, 1, 2]))
        self.assertEqual(told, [[16, 0, 2, 1], [22], [1, 16, 3]])

    def test_a_change_is_seen_at_once(self):
        told = told_by(
            10, THREE, ("set_departure", 0), ("return_time",), ("set_position", 2, -20), ("return_time",),
            ("set_deadline", 1, 7), ("return_time",), ("remove_shop", 1), ("return_time",),
        )
        self.assertEqual(told[1::2], [[40], [56], [-33], [40]])
