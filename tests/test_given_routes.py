"""arrival_times and check_route: routes that are handed in, and what is refused of them."""

import unittest

from tests.requests import HIGHEST, LOWEST, NO_INDEX_OF_THREE, SEVEN, THREE, shops_at, told_by


class GivenRoutes(unittest.TestCase):
    def check(self, departure, shops, route, times, on_time, finish, loaves):
        told = told_by(departure, shops, ("arrival_times", route), ("check_route", route))
        self.assertEqual(told, [[len(times)] + times, [on_time, finish, loaves]])

    def check_refused(self, shops, route):
        told = told_by(10, shops, ("arrival_times", route), ("check_route", route))
        self.assertEqual(told, [[-22], [-22]], route)

    def test_the_empty_route(self):
        for departure in (0, 10, 299):
            self.check(departure, [], [], [], 1, departure, 0)
            self.check(departure, THREE, [], [], 1, departure, 0)

    def test_the_empty_route_is_on_time_where_no_shop_is(self):
        self.check(10, shops_at((99, 0), (-99, 0)), [], [], 1, 10, 0)

    def test_all_shops(self):
        self.check(10, THREE, [1, 0, 2], [18, 31, 38], 1, 38, 35)
        self.check(0, SEVEN, [2, 1, 0, 3, 4, 5, 6], [1, 2, 3, 6, 7, 8, 9], 1, 9, 28)

    def test_some_of_the_shops(self):
        self.check(10, THREE, [0], [15], 1, 15, 10)
        self.check(10, THREE, [1], [18], 1, 18, 20)
        self.check(10, THREE, [2], [22], 1, 22, 5)
        self.check(10, THREE, [1, 2], [18, 38], 1, 38, 25)
        self.check(10, THREE, [0, 2], [15, 22], 1, 22, 15)

    def test_no_sweeping_route(self):
        self.check(10, THREE, [2, 0], [22, 29], 1, 29, 15)
        self.check(10, THREE, [1, 2, 0], [18, 38, 45], 0, 45, 35)
        self.check(0, SEVEN, [6, 0, 5, 1, 4, 2, 3], [3, 9, 14, 18, 21, 23, 24], 1, 24, 28)
        self.check(0, shops_at((4, 299), (4, 299), (0, 299)), [1, 0, 2], [4, 4, 8], 1, 8, 3)

    def test_late_is_no_error(self):
        self.check(10, THREE, [0, 2, 1], [15, 22, 42], 0, 42, 35)
        self.check(299, [(99, 0, 0), (-99, 0, 7)], [0, 1], [398, 596], 0, 596, 7)

    def test_on_time_at_the_deadline_and_not_one_later(self):
        self.check(12, THREE, [1], [20], 1, 20, 20)
        self.check(13, THREE, [1], [21], 0, 21, 20)
        self.check(0, shops_at((-5, 5), (5, 15)), [0, 1], [5, 15], 1, 15, 2)
        self.check(1, shops_at((-5, 6), (5, 15)), [0, 1], [6, 16], 0, 16, 2)
        self.check(7, shops_at((0, 7)), [0], [7], 1, 7, 1)
        self.check(7, shops_at((0, 6)), [0], [7], 0, 7, 1)

    def test_late_at_one_shop_alone(self):
        for late in range(3):
            shops = [(position, 299, 1) for position in (2, 5, 9)]
            self.check(0, shops, [0, 1, 2], [2, 5, 9], 1, 9, 3)
            shops[late] = (shops[late][0], shops[late][0] - 1, 1)
            self.check(0, shops, [0, 1, 2], [2, 5, 9], 0, 9, 3)

    def test_a_deadline_off_the_route_says_nothing(self):
        shops = shops_at((2, 299), (5, 0), (9, 299))
        self.check(0, shops, [0, 2], [2, 9], 1, 9, 2)

    def test_an_index_of_no_shop(self):
        for wrong in NO_INDEX_OF_THREE:
            for route in ([wrong], [0, wrong], [wrong, 0], [0, wrong, 1], [0, 1, 2, wrong]):
                self.check_refused(THREE, route)
        for wrong in (0, 1, -1, LOWEST, HIGHEST):
            self.check_refused([], [wrong])
        for wrong in (7, 8, -1, -7, LOWEST, HIGHEST):
            self.check_refused(SEVEN, [wrong])

    def test_the_same_index_twice(self):
        for route in ([0, 0], [1, 1], [0, 1, 0], [2, 1, 1], [0, 1, 2, 0], [2, 2, 2]):
            self.check_refused(THREE, route)

    def test_the_same_index_twice_and_an_index_of_no_shop(self):
        for wrong in NO_INDEX_OF_THREE:
            for route in ([0, 0, wrong], [wrong, 1, 1], [wrong, wrong], [wrong, 0, wrong]):
                self.check_refused(THREE, route)

    def test_seventy_numbers(self):
        routes = ([0] * 70, list(range(70)), [0, 1, 2] * 23 + [0], [HIGHEST] * 70, [LOWEST] * 70, list(range(-70, 0)))
        for route in routes:
            self.assertEqual(len(route), 70)
            for shops in ([], THREE, SEVEN):
                self.check_refused(shops, route)

    def test_the_calls_behind_are_found(self):
        told = told_by(
            10, THREE, ("arrival_times", list(range(70))), ("check_route", []), ("arrival_times", [16, 9]),
            ("arrival_times", []), ("check_route", [1, 0]), ("describe",),
        )
        self.assertEqual(told[:-1], [[-22], [1, 10, 0], [-22], [0], [1, 31, 30]])
        self.assertEqual(told[-1][:2], [10, 3])

    def test_a_change_is_seen_at_once(self):
        told = told_by(
            10, THREE, ("set_departure", 0), ("arrival_times", [1, 0]), ("set_position", 1, -8),
            ("arrival_times", [1, 0]), ("set_loaves", 1, 1), ("check_route", [1, 0]), ("set_deadline", 1, 7),
            ("check_route", [1, 0]), ("remove_shop", 0), ("arrival_times", [1, 0]), ("arrival_times", [2]),
        )
        self.assertEqual(told[1::2], [[2, 8, 21], [2, 8, 11], [1, 11, 11], [0, 11, 11], [2, 12, 16]])
        self.assertEqual(told[-1], [-22])
