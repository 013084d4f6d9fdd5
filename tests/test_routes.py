"""earliest_finish and best_route: what they answer, held against a search over all orders."""

import itertools
import unittest

from tests.requests import THREE, asked, building, drawn, drawn_instance, searched, shops_at, state_after


def asked_for_route(departure, shops):
    told = asked(building(departure, shops) + [("earliest_finish",), ("best_route",)])
    return told[-2], told[-1]


class BestRoute(unittest.TestCase):
    def check(self, departure, shops, finish, route):
        told = asked_for_route(departure, shops)
        self.assertEqual(told, ([finish], [finish] + route))

    def check_none(self, departure, shops):
        self.assertEqual(asked_for_route(departure, shops), ([-33], [-33]))

    def test_no_shops(self):
        for departure in (0, 10, 299):
            self.check(departure, [], departure, [])

    def test_one_shop(self):
        self.check(0, shops_at((99, 99)), 99, [0])
        self.check(0, shops_at((-99, 99)), 99, [0])
        self.check(200, shops_at((-99, 299)), 299, [0])

    def test_deadline_just_met_and_just_missed(self):
        self.check(10, shops_at((-5, 15)), 15, [0])
        self.check_none(10, shops_at((-5, 14)))
        self.check(10, shops_at((5, 15)), 15, [0])
        self.check_none(10, shops_at((5, 14)))
        self.check_none(201, shops_at((99, 299)))

    def test_a_deadline_turns_the_van_round(self):
        self.check(0, shops_at((-3, 299), (10, 299)), 16, [0, 1])
        self.check(0, shops_at((-3, 299), (10, 16)), 16, [0, 1])
        self.check(0, shops_at((-3, 299), (10, 15)), 23, [1, 0])
        self.check(0, shops_at((-3, 23), (10, 15)), 23, [1, 0])
        self.check_none(0, shops_at((-3, 22), (10, 15)))

    def test_the_van_turns_more_than_once(self):
        shops = shops_at((-2, 2), (3, 7), (-4, 14), (9, 27), (-8, 299))
        self.check(0, shops, 44, [0, 1, 2, 3, 4])
        self.check_none(0, shops[:2] + shops_at((-4, 13)) + shops[3:])

    def test_of_equal_finishes_the_left_comes_first(self):
        self.check(0, shops_at((-5, 299), (5, 299)), 15, [0, 1])
        self.check(0, shops_at((5, 299), (-5, 299)), 15, [1, 0])
        self.check(0, shops_at((5, 5), (-5, 299)), 15, [0, 1])

    def test_of_equal_finishes_the_first_difference_decides(self):
        # A shop at 0 is passed on the way, so it may stand at several places of the route.
        self.check(0, shops_at((-1, 299), (0, 299), (0, 299)), 1, [1, 2, 0])
        self.check(0, shops_at((-1, 1), (0, 2), (1, 299)), 3, [0, 1, 2])
        self.check(0, shops_at((-1, 299), (0, 299), (1, 299)), 3, [0, 1, 2])
        self.check(0, shops_at((-1, 299), (0, 0), (1, 299)), 3, [1, 0, 2])

    def test_equal_finishes_from_both_ends(self):
        # Both ends are as far: left first and right first take 12 alike.
        self.check(0, shops_at((-4, 299), (4, 299), (-4, 299)), 12, [0, 2, 1])
        self.check(0, shops_at((-4, 299), (4, 4), (-4, 299)), 12, [1, 0, 2])

    def test_an_earlier_finish_beats_the_left(self):
        self.check(0, shops_at((-10, 299), (3, 299)), 16, [1, 0])
        self.check(0, shops_at((-10, 299), (0, 299)), 10, [1, 0])

    def test_shops_at_position_0_are_right_ones(self):
        self.check(7, shops_at((0, 7), (0, 7), (0, 7)), 7, [0, 1, 2])
        self.check_none(7, shops_at((0, 7), (0, 6)))
        self.check(0, shops_at((5, 299), (0, 299), (-5, 299)), 15, [2, 1, 0])
        self.check(0, shops_at((5, 299), (0, 9), (-5, 299)), 15, [1, 2, 0])

    def test_same_distance_on_the_same_side_goes_by_number(self):
        self.check(0, shops_at((4, 299), (4, 4), (4, 50)), 4, [0, 1, 2])
        self.check(0, shops_at((-4, 50), (-4, 4), (-4, 299)), 4, [0, 1, 2])
        self.check(0, shops_at((6, 299), (4, 299), (6, 299), (4, 299)), 6, [1, 3, 0, 2])

    def test_same_distance_on_both_sides(self):
        self.check(0, shops_at((4, 299), (-4, 299), (4, 299), (-4, 299)), 12, [1, 3, 0, 2])

    def test_seven_shops(self):
        right = shops_at(*[(10 * i, 299) for i in (7, 6, 5, 4, 3, 2, 1)])
        self.check(0, right, 70, [6, 5, 4, 3, 2, 1, 0])
        left = shops_at(*[(-10 * i, 299) for i in (7, 6, 5, 4, 3, 2, 1)])
        self.check(0, left, 70, [6, 5, 4, 3, 2, 1, 0])
        mixed = shops_at((-1, 299), (1, 299), (-2, 299), (2, 299), (-3, 299), (3, 299), (0, 299))
        self.check(0, mixed, 9, [0, 2, 4, 6, 1, 3, 5])
        zigzag = shops_at((1, 1), (-1, 3), (2, 6), (-2, 10), (3, 15), (-3, 21), (4, 28))
        self.check(0, zigzag, 28, [0, 1, 2, 3, 4, 5, 6])
        self.check_none(0, zigzag[:6] + shops_at((4, 27)))

    def test_a_change_is_seen_at_once(self):
        calls = building(10, THREE) + [
            ("best_route",), ("set_departure", 12), ("best_route",), ("set_departure", 13), ("best_route",),
            ("set_deadline", 1, 299), ("best_route",), ("set_position", 1, -30), ("best_route",),
            ("set_loaves", 1, 0), ("best_route",), ("remove_shop", 0), ("best_route",), ("earliest_finish",),
        ]
        told = asked(calls)[4:]
        self.assertEqual(told, [
            [38, 1, 0, 2], [10], [40, 1, 0, 2], [12], [-33], [20], [41, 1, 0, 2], [38], [43, 0, 2, 1],
            [20], [43, 0, 2, 1], [2], [43, 1, 0], [43],
        ])

    def test_queries_leave_the_instance(self):
        for departure, shops in ((10, THREE), (13, THREE), (5, [])):
            for query in ("earliest_finish", "best_route"):
                with self.subTest(departure=departure, query=query):
                    calls = building(departure, shops) + [(query,), (query,)]
                    told = asked(calls)
                    self.assertEqual(told[-1], told[-2])
                    self.assertEqual(state_after(calls, len(shops)), (departure, shops))


class AllOrders(unittest.TestCase):
    def check(self, departure, shops):
        least, route = searched(departure, shops, range(len(shops)))
        expected = ([-33], [-33]) if route is None else ([least], [least] + route)
        self.assertEqual(route is None, least is None)
        self.assertEqual(asked_for_route(departure, shops), expected, (departure, shops))
        return route is not None

    def test_drawn_instances(self):
        found = [self.check(*drawn_instance(seed)) for seed in range(3000)]
        # The sample says little if nearly all of it can be met, or nearly nothing.
        self.assertGreater(found.count(True), 500)
        self.assertGreater(found.count(False), 500)

    def test_every_instance_of_three_shops_on_a_short_street(self):
        places = [(position, deadline, 1) for position in (-2, 0, 1, 2) for deadline in (1, 2, 4, 6, 8)]
        for shops in itertools.product(places, repeat=3):
            self.check(0, list(shops))

    def test_seven_shops(self):
        places = (-9, -4, -4, -1, 0, 3, 6, 6, 11)
        for seed in range(12):
            numbers = drawn(seed, 14)
            shops = [(places[numbers[i] % 9], 20 + numbers[7 + i] % 60, 1) for i in range(7)]
            self.check(seed, shops)

    def test_later_departure(self):
        for seed in range(0, 3000, 10):
            departure, shops = drawn_instance(seed)
            calls = building(departure, shops) + [("earliest_finish",)]
            for later in (1, 2, 5, 20):
                calls += [("set_departure", departure + later), ("earliest_finish",)]
            told = asked(calls)[1 + len(shops)::2]
            for earlier, later, gap in zip(told, told[1:], (1, 1, 3, 15)):
                if later != [-33]:
                    self.assertNotEqual(earlier, [-33])
                    self.assertGreaterEqual(later[0], earlier[0] + gap)
