"""describe, and that the operations from number 7 on and every refused one leave the instance as it was."""

import unittest

from tests.requests import (
    HIGHEST, LOWEST, NUMBERS, SEVEN, THREE, asked, building, description, last, shops_at, state_after, told_by,
)

LATE = shops_at((99, 98), (-99, 98), (5, 9))
INSTANCES = [(10, THREE), (13, THREE), (0, SEVEN), (299, SEVEN), (5, LATE), (7, []), (0, [(0, 0, 0)])]
QUERIES = [
    ("earliest_finish",), ("best_route",), ("arrival_times", []), ("arrival_times", [0]), ("arrival_times", [2, 0, 1]),
    ("check_route", []), ("check_route", [0]), ("check_route", [2, 0, 1]), ("max_loaves",), ("earliest_finish_of", 0),
    ("earliest_finish_of", 1), ("earliest_finish_of", 7), ("latest_departure",), ("return_time",),
    ("earliest_finish_without", 0), ("earliest_finish_without", 2), ("describe",),
]
REFUSED = [
    ("create", -1), ("create", 300), ("add_shop", 100, 0, 0), ("add_shop", 0, 300, 0), ("add_shop", 0, 0, 100),
    ("remove_shop", -1), ("remove_shop", 7), ("set_position", -1, 0), ("set_position", 0, 100), ("set_deadline", 7, 0),
    ("set_deadline", 0, 300), ("set_loaves", -1, 0), ("set_loaves", 0, -1), ("set_departure", 300),
    ("set_departure", LOWEST), ("arrival_times", [7]), ("arrival_times", [0, 0]), ("arrival_times", [0, -1, 0]),
    ("check_route", [HIGHEST]), ("check_route", [0, 0]), ("earliest_finish_of", 128), ("earliest_finish_of", -1),
    ("earliest_finish_without", 7), ("earliest_finish_without", -1),
]


class Describe(unittest.TestCase):
    def check(self, calls, departure, shops):
        self.assertEqual(last(calls + [("describe",)]), description(departure, shops))

    def test_no_shops(self):
        for departure in (0, 10, 299):
            self.assertEqual(asked([("create", departure), ("describe",)]), [[0], [departure, 0]])

    def test_three_shops(self):
        told = told_by(10, THREE, ("describe",))
        self.assertEqual(told, [[10, 3, -5, 40, 10, 8, 20, 20, -12, 60, 5]])

    def test_seven_shops(self):
        told = last(building(0, SEVEN) + [("describe",)])
        self.assertEqual(told[:2], [0, 7])
        self.assertEqual(told[2:], [number for shop in SEVEN for number in shop])

    def test_greatest_and_least_values(self):
        shops = [(-99, 0, 0), (99, 299, 99), (0, 0, 0)]
        self.check(building(299, shops), 299, shops)

    def test_each_shop_that_is_added(self):
        calls = [("create", 10)]
        for count in range(8):
            self.check(calls, 10, SEVEN[:count])
            if count < 7:
                calls.append(("add_shop",) + SEVEN[count])
        self.check(calls + [("add_shop", 4, 4, 4)], 10, SEVEN)

    def test_after_remove_shop(self):
        for i in range(7):
            self.check(building(0, SEVEN) + [("remove_shop", i)], 0, SEVEN[:i] + SEVEN[i + 1:])
        self.check(building(10, THREE) + [("remove_shop", 0)] * 3, 10, [])

    def test_after_each_set_call(self):
        calls = building(10, THREE)
        self.check(calls + [("set_position", 1, -99)], 10, [THREE[0], (-99, 20, 20), THREE[2]])
        self.check(calls + [("set_deadline", 1, 299)], 10, [THREE[0], (8, 299, 20), THREE[2]])
        self.check(calls + [("set_loaves", 1, 99)], 10, [THREE[0], (8, 20, 99), THREE[2]])
        self.check(calls + [("set_departure", 299)], 299, THREE)

    def test_after_create(self):
        for wrong in (-1, 300, LOWEST, HIGHEST):
            self.check(building(10, THREE) + [("create", wrong)], 10, THREE)
        self.check(building(10, THREE) + [("create", 20)], 20, [])
        self.check(building(10, THREE) + building(20, SEVEN), 20, SEVEN)

    def test_as_the_set_calls_tell_it(self):
        for departure, shops in INSTANCES:
            self.assertEqual(state_after(building(departure, shops), len(shops)), (departure, shops))
            self.check(building(departure, shops), departure, shops)


class LeftAsItWas(unittest.TestCase):
    def check(self, departure, shops, call):
        before, told, after = told_by(departure, shops, ("describe",), call, ("describe",))
        self.assertEqual(before, description(departure, shops))
        self.assertEqual(after, before, call)
        self.assertEqual(state_after(building(departure, shops) + [call], len(shops)), (departure, shops))
        return told

    def test_operations_from_number_7_on(self):
        self.assertEqual({NUMBERS[call[0]] for call in QUERIES}, set(range(7, 17)))
        for departure, shops in INSTANCES:
            for call in QUERIES:
                with self.subTest(departure=departure, shops=shops, call=call):
                    self.check(departure, shops, call)

    def test_all_of_them_one_behind_another(self):
        for departure, shops in INSTANCES:
            told = told_by(departure, shops, *(QUERIES + QUERIES))
            self.assertEqual(told[:len(QUERIES)], told[len(QUERIES):])
            self.assertEqual(told[-1], description(departure, shops))

    def test_refused_calls(self):
        for departure, shops in INSTANCES:
            for call in REFUSED:
                with self.subTest(departure=departure, shops=shops, call=call):
                    told = self.check(departure, shops, call)
                    self.assertEqual(len(told), 1)
                    self.assertIn(told[0], (-2, -22))

    def test_no_room_for_an_eighth_shop(self):
        self.assertEqual(self.check(0, SEVEN, ("add_shop", 4, 4, 4)), [-28])

    def test_not_on_time(self):
        queries = (
            ("earliest_finish",), ("best_route",), ("earliest_finish_of", 7), ("latest_departure",), ("return_time",),
            ("earliest_finish_without", 2),
        )
        for call in queries:
            self.assertEqual(self.check(5, LATE, call), [-33], call)
