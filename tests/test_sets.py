"""earliest_finish_of, earliest_finish_without and max_loaves: sets of shops."""

import unittest

from tests.requests import HIGHEST, LOWEST, NO_INDEX_OF_THREE, SEVEN, THREE, shops_at, told_by

NEVER = shops_at((99, 98), (-99, 98), (0, 9))


class EarliestFinishOf(unittest.TestCase):
    def check(self, departure, shops, finishes):
        told = told_by(departure, shops, *[("earliest_finish_of", mask) for mask in finishes])
        self.assertEqual(told, [[finish] for finish in finishes.values()])

    def test_every_set_of_three(self):
        self.check(10, THREE, {0: 10, 1: 15, 2: 18, 3: 31, 4: 22, 5: 22, 6: 38, 7: 38})

    def test_each_bit_is_its_own_shop(self):
        shops = shops_at(*[(position, 299) for position in (1, -3, 7, -13, 29, -57, 99)])
        self.check(0, shops, {1: 1, 2: 3, 4: 7, 8: 13, 16: 29, 32: 57, 64: 99, 10: 13, 21: 29, 65: 99})

    def test_some_sets_are_on_time_where_all_shops_are_not(self):
        shops = [(-5, 16, 10)] + THREE[1:]
        self.check(10, shops, {7: -33, 0: 10, 1: 15, 2: 18, 3: -33, 4: 22, 5: 22, 6: 38})

    def test_the_empty_set_is_always_on_time(self):
        self.check(10, NEVER, {0: 10, 1: -33, 2: -33, 3: -33, 4: -33, 7: -33})

    def test_no_shops(self):
        for departure in (0, 10, 299):
            self.check(departure, [], {0: departure, 1: -22, 2: -22, -1: -22, LOWEST: -22, HIGHEST: -22})

    def test_one_shop(self):
        self.check(10, shops_at((-5, 15)), {0: 10, 1: 15, 2: -22, 3: -22, -1: -22, LOWEST: -22, HIGHEST: -22})
        self.check(10, shops_at((-5, 14)), {0: 10, 1: -33, 2: -22, 3: -22, -1: -22, LOWEST: -22, HIGHEST: -22})

    def test_seven_shops(self):
        self.check(0, SEVEN, {0: 0, 127: 9, 126: 7, 63: 7, 128: -22, 129: -22, -1: -22, LOWEST: -22, HIGHEST: -22})

    def test_out_of_range_is_answered_ahead_of_not_on_time(self):
        self.check(10, NEVER, {7: -33, 8: -22, 9: -22, 15: -22, -1: -22, -7: -22, LOWEST: -22, HIGHEST: -22})

    def test_the_set_of_all_shops_is_the_one_of_earliest_finish(self):
        for shops in (THREE, SEVEN, NEVER, []):
            told = told_by(10, shops, ("earliest_finish",), ("earliest_finish_of", 2 ** len(shops) - 1))
            self.assertEqual(told[0], told[1])


class EarliestFinishWithout(unittest.TestCase):
    def check(self, departure, shops, finishes):
        told = told_by(departure, shops, *[("earliest_finish_without", i) for i in finishes])
        self.assertEqual(told, [[finish] for finish in finishes.values()])

    def test_ordinary(self):
        self.check(10, THREE, {0: 38, 1: 22, 2: 31})
        self.check(0, SEVEN, {0: 7, 1: 9, 3: 9, 5: 9, 6: 7})

    def test_only_without_the_late_shop(self):
        self.check(10, [(-5, 16, 10)] + THREE[1:], {0: 38, 1: 22, 2: -33})

    def test_not_on_time(self):
        self.check(10, NEVER, {0: -33, 1: -33, 2: -33})

    def test_one_shop_alone(self):
        for departure in (0, 10, 299):
            self.check(departure, shops_at((5, 299)), {0: departure, 1: -2, -1: -2})
            self.check(departure, shops_at((99, 0)), {0: departure, 1: -2, -1: -2})

    def test_no_such_shop(self):
        self.check(10, THREE, {i: -2 for i in NO_INDEX_OF_THREE})
        self.check(10, [], {i: -2 for i in (0, 1, -1, LOWEST, HIGHEST)})
        self.check(0, SEVEN, {i: -2 for i in (7, 8, -1, -7, LOWEST, HIGHEST)})

    def test_no_such_shop_is_answered_ahead_of_not_on_time(self):
        self.check(10, NEVER, {i: -2 for i in NO_INDEX_OF_THREE})


class MaxLoaves(unittest.TestCase):
    def check(self, departure, shops, loaves, route):
        self.assertEqual(told_by(departure, shops, ("max_loaves",)), [[loaves] + route])

    def test_no_shops(self):
        for departure in (0, 10, 299):
            self.check(departure, [], 0, [])

    def test_all_shops_on_time(self):
        self.check(10, THREE, 35, [1, 0, 2])
        self.check(0, SEVEN, 28, [2, 1, 0, 3, 4, 5, 6])

    def test_no_shop_on_time(self):
        self.check(10, NEVER, 0, [])
        self.check(299, [(1, 299, 99)], 0, [])

    def test_one_shop(self):
        self.check(10, [(-5, 15, 99)], 99, [0])
        self.check(10, [(-5, 14, 99)], 0, [])

    def test_some_shops_on_time(self):
        self.check(10, [(-5, 16, 10)] + THREE[1:], 25, [1, 2])
        self.check(10, [(-5, 16, 16)] + THREE[1:], 25, [1, 2])
        self.check(10, [(-5, 16, 30)] + THREE[1:], 35, [0, 2])

    def test_many_small_orders_beat_the_largest_one(self):
        self.check(0, [(-9, 9, 50), (2, 2, 17), (5, 5, 17), (9, 9, 17)], 51, [1, 2, 3])
        self.check(0, [(-9, 9, 52), (2, 2, 17), (5, 5, 17), (9, 9, 17)], 52, [0])

    def test_of_equal_loaves_the_smallest_bitmask(self):
        self.check(0, [(-9, 9, 5), (9, 9, 5)], 5, [0])
        self.check(0, [(9, 9, 5), (-9, 9, 5)], 5, [0])
        # {0, 1} has the bitmask 3 and {2} has 4: not the fewest shops.
        self.check(0, [(-9, 9, 5), (-9, 9, 5), (9, 9, 10)], 10, [0, 1])
        # {0} has the bitmask 1 and {1, 2} has 6: not the most shops.
        self.check(0, [(-9, 9, 10), (9, 9, 5), (9, 9, 5)], 10, [0])
        # {1, 2} has the bitmask 6 and {0, 3} has 9: not the lowest index.
        self.check(0, [(-9, 9, 5), (9, 9, 5), (9, 9, 5), (-9, 9, 5)], 10, [1, 2])

    def test_of_equal_loaves_not_the_earlier_finish(self):
        self.check(0, [(-9, 9, 5), (3, 3, 5)], 5, [0])

    def test_shops_that_want_no_loaves_are_left_out(self):
        self.check(0, [(5, 299, 0)], 0, [])
        self.check(0, [(5, 299, 0), (6, 299, 3)], 3, [1])
        self.check(0, [(6, 299, 3), (5, 299, 0)], 3, [0])
        self.check(0, [(5, 299, 0), (-6, 299, 0), (0, 299, 0)], 0, [])
        self.check(0, [(position, 299, 0) for position, _, _ in SEVEN], 0, [])

    def test_the_first_of_several_best_routes(self):
        self.check(0, [(5, 299, 1), (-5, 299, 1)], 2, [1, 0])
        self.check(0, [(5, 299, 1), (-5, 299, 1), (99, 98, 50)], 2, [1, 0])
        self.check(0, [(99, 98, 50), (1, 1, 1), (6, 299, 1), (-4, 299, 1)], 3, [1, 3, 2])

    def test_the_best_route_of_the_set_and_no_other(self):
        self.check(0, [(-3, 299, 1), (10, 15, 1), (99, 98, 50)], 2, [1, 0])
        self.check(0, [(-3, 299, 1), (10, 16, 1), (99, 98, 50)], 2, [0, 1])

    def test_most_loaves_of_seven_shops(self):
        shops = [(position, 299, 99) for position, _, _ in SEVEN]
        self.check(0, shops, 693, [2, 1, 0, 3, 4, 5, 6])

    def test_a_change_is_seen_at_once(self):
        told = told_by(
            10, THREE, ("set_departure", 13), ("max_loaves",), ("set_loaves", 1, 0), ("max_loaves",),
            ("set_departure", 12), ("max_loaves",), ("set_position", 2, 50), ("max_loaves",), ("set_deadline", 2, 62),
            ("max_loaves",), ("remove_shop", 0), ("max_loaves",),
        )
        self.assertEqual(told[1::2], [[15, 0, 2], [15, 0, 2], [15, 0, 2], [10, 0], [10, 0], [5, 1]])
