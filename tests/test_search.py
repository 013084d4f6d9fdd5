"""The document's points 1 to 4, and each query, held against a plain search on drawn instances."""

import itertools
import unittest

from tests.requests import (
    arrivals, asked, building, drawn, drawn_instance, finish_on_time, searched, sets_of, told_by,
)


def richest(departure, shops):
    """The answer to max_loaves: every set is looked at, by ascending bitmask."""
    most, answer = -1, None
    for chosen in sets_of(len(shops)):
        loaves = sum(shops[i][2] for i in chosen)
        if loaves > most:
            _, route = searched(departure, shops, chosen)
            if route is not None:
                most, answer = loaves, [loaves] + route
    return answer


def latest(shops):
    """The answer to latest_departure: every departure is looked at, and every order."""
    for departure in range(299, -1, -1):
        for route in itertools.permutations(range(len(shops))):
            if finish_on_time(departure, shops, route) is not None:
                return departure
    return -33


def code_or(value):
    return [-33] if value is None else [value]


class Sets(unittest.TestCase):
    def test_earliest_finish_of_every_set_and_without_every_shop(self):
        late = 0
        for seed in range(0, 3000, 6):
            departure, shops = drawn_instance(seed)
            chosen_sets = sets_of(len(shops))
            finishes = [code_or(searched(departure, shops, chosen)[0]) for chosen in chosen_sets]
            queries = [("earliest_finish_of", mask) for mask in range(len(chosen_sets))]
            queries += [("earliest_finish_without", i) for i in range(len(shops))]
            without = [finishes[len(chosen_sets) - 1 - 2 ** i] for i in range(len(shops))]
            self.assertEqual(told_by(departure, shops, *queries), finishes + without, (departure, shops))
            late += finishes.count([-33])
        self.assertGreater(late, 500)

    def test_every_set_of_shops_that_share_their_places(self):
        places = [(-1, 1), (0, 0), (0, 3), (1, 1), (1, 4), (-1, 9)]
        for shops in itertools.product(places, repeat=3):
            finishes = [code_or(searched(0, shops, chosen)[0]) for chosen in sets_of(3)]
            shops = [(position, deadline, 1) for position, deadline in shops]
            self.assertEqual(told_by(0, shops, *[("earliest_finish_of", mask) for mask in range(8)]), finishes, shops)

    def test_later_departure(self):
        for seed in range(0, 3000, 30):
            departure, shops = drawn_instance(seed)
            for later in (1, 2, 5, 20):
                queries = [("earliest_finish_of", mask) for mask in range(2 ** len(shops))]
                early = told_by(departure, shops, *queries)
                late = told_by(departure + later, shops, *queries)
                for before, after in zip(early, late):
                    if after != [-33]:
                        self.assertNotEqual(before, [-33])
                        self.assertGreaterEqual(after[0], before[0] + later)


class Routes(unittest.TestCase):
    def check(self, departure, shops, routes):
        queries = []
        for route in routes:
            mask = sum(2 ** i for i in route)
            queries += [("arrival_times", list(route)), ("check_route", list(route)), ("earliest_finish_of", mask)]
        told = told_by(departure, shops, *queries)
        for route, times, checked, finish in zip(routes, told[::3], told[1::3], told[2::3]):
            expected = arrivals(departure, shops, route)
            self.assertEqual(times, [len(route)] + expected)
            on_time = 0 if finish_on_time(departure, shops, route) is None else 1
            loaves = sum(shops[i][2] for i in route)
            self.assertEqual(checked, [on_time, ([departure] + expected)[-1], loaves])
            if on_time == 1:
                self.assertNotEqual(finish, [-33])
                self.assertLessEqual(finish[0], checked[1])

    def test_every_route_of_every_set(self):
        for seed in range(0, 3000, 20):
            departure, shops = drawn_instance(seed)
            indexes = range(len(shops))
            routes = [route for count in range(len(shops) + 1) for route in itertools.permutations(indexes, count)]
            for start in range(0, len(routes), 18):
                self.check(departure, shops, routes[start:start + 18])


class WholeInstances(unittest.TestCase):
    def test_max_loaves(self):
        none, some = 0, 0
        for seed in range(2000):
            departure, shops = drawn_instance(seed)
            # Few different loaves make many sets that want as many.
            if seed % 2 == 0:
                shops = [(position, deadline, loaves % 4) for position, deadline, loaves in shops]
            expected = richest(departure, shops)
            self.assertEqual(told_by(departure, shops, ("max_loaves",)), [expected], (departure, shops))
            if len(expected) == 1:
                none += 1
            elif len(expected) < len(shops) + 1:
                some += 1
        self.assertGreater(none, 100)
        self.assertGreater(some, 500)

    def test_latest_departure(self):
        never, above, below = 0, 0, 0
        for seed in range(1500):
            departure, shops = drawn_instance(seed)
            shops = shops[:4]
            expected = latest(shops)
            self.assertEqual(told_by(departure, shops, ("latest_departure",)), [[expected]], (departure, shops))
            never += expected == -33
            above += expected > departure
            below += 0 <= expected < departure
        self.assertGreater(never, 50)
        self.assertGreater(above, 500)
        self.assertGreater(below, 100)

    def test_return_time(self):
        for seed in range(0, 3000, 2):
            departure, shops = drawn_instance(seed)
            finish, route = searched(departure, shops, range(len(shops)))
            if route is None:
                expected = -33
            elif not route:
                expected = departure
            else:
                expected = finish + abs(shops[route[-1]][0])
            self.assertEqual(told_by(departure, shops, ("return_time",)), [[expected]], (departure, shops))


class LongLists(unittest.TestCase):
    def seven(self, seed):
        places = (-9, -4, -4, -1, 0, 3, 6, 6, 11)
        numbers = drawn(seed, 21)
        return [(places[numbers[i] % 9], numbers[7 + i] % 50, numbers[14 + i] % 6) for i in range(7)]

    def check_latest(self, shops, answered):
        """Told by best_route at that departure and one later: all orders at all departures are too many here."""
        time = max(0, answered[0])
        told = told_by(0, shops, ("set_departure", time), ("best_route",), ("set_departure", time + 1), ("best_route",))
        self.assertEqual(told[1] == [-33], answered == [-33])
        self.assertEqual(told[3], [-33])

    def test_sixty_calls_on_seven_shops(self):
        for seed in range(8):
            shops = self.seven(seed)
            calls = building(seed, shops) + [("max_loaves",), ("latest_departure",)] * 26
            self.assertEqual(len(calls), 60)
            told = asked(calls)[8:]
            self.assertEqual(told[0::2], [richest(seed, shops)] * 26)
            self.assertEqual(told[1::2], [told[1]] * 26)
            self.check_latest(shops, told[1])

    def test_sixty_calls_with_changes_among_them(self):
        shops = self.seven(3)
        calls = building(0, shops)
        expected = []
        for departure in range(1, 14):
            i = departure % 7
            shops[i] = (shops[i][0], 2 * departure + 30, shops[i][2])
            calls += [("set_departure", departure), ("set_deadline", i, shops[i][1])]
            calls += [("max_loaves",), ("latest_departure",)]
            expected.append((richest(departure, shops), departure, list(shops)))
        self.assertEqual(len(calls), 60)
        told = asked(calls)[8:]
        for (most, departure, state), answered, time in zip(expected, told[2::4], told[3::4]):
            self.assertEqual(answered, most, (departure, state))
            self.check_latest(state, time)
