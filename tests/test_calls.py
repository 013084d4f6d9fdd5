"""The calls that build and change an instance: their answers, errors and edges."""

import contextlib
import io
import unittest

from breadstreet.van import answers
from tests.requests import (
    EDGES, HIGHEST, LOAVES, LOWEST, NO_INDEX_OF_THREE, NUMBERS, POSITIONS, SEVEN, THREE, TIMES, asked, building, flat,
    last, state_after,
)


class Create(unittest.TestCase):
    def test_ordinary(self):
        self.assertEqual(asked([("create", 10)]), [[0]])
        self.assertEqual(state_after([("create", 10)], 0), (10, []))

    def test_edges(self):
        for departure in EDGES:
            with self.subTest(departure=departure):
                expected = [0] if departure in TIMES else [-22]
                self.assertEqual(last([("create", departure)]), expected)

    def test_second_create_replaces_the_instance(self):
        calls = building(10, THREE) + [("create", 20)]
        self.assertEqual(last(calls), [0])
        self.assertEqual(state_after(calls, 0), (20, []))
        self.assertEqual(last(calls + [("add_shop", 1, 2, 3)]), [0])

    def test_failing_create_keeps_the_instance(self):
        for departure in (-1, 300, LOWEST, HIGHEST):
            with self.subTest(departure=departure):
                calls = building(10, THREE) + [("create", departure)]
                self.assertEqual(last(calls), [-22])
                self.assertEqual(state_after(calls, 3), (10, THREE))

    def test_failing_first_create_makes_no_instance(self):
        told = asked([("create", 300), ("earliest_finish",), ("create", 299), ("earliest_finish",)])
        self.assertEqual(told, [[-22], [-11], [0], [299]])


class NoInstance(unittest.TestCase):
    def test_every_call_ahead_of_create(self):
        calls = [
            ("add_shop", -5, 40, 10), ("remove_shop", 0), ("set_position", 0, 1), ("set_deadline", 0, 1),
            ("set_loaves", 0, 1), ("set_departure", 1), ("earliest_finish",), ("best_route",),
            ("arrival_times", []), ("check_route", []), ("max_loaves",), ("earliest_finish_of", 0),
            ("latest_departure",), ("return_time",), ("earliest_finish_without", 0), ("describe",),
        ]
        self.assertEqual([NUMBERS[call[0]] for call in calls], list(range(1, 17)))
        self.assertEqual(asked(calls), [[-11]] * len(calls))
        self.assertEqual(asked([("create", -1)] + calls), [[-22]] + [[-11]] * len(calls))

    def test_checked_ahead_of_every_other_error(self):
        calls = [
            ("add_shop", 100, 300, -1), ("remove_shop", -1), ("set_position", -1, 100), ("set_deadline", 7, 300),
            ("set_loaves", 7, 100), ("set_departure", 300), ("set_departure", LOWEST),
        ]
        for name in ("arrival_times", "check_route"):
            calls += [(name, route) for route in ([0], [-1], [0, 0], [LOWEST, HIGHEST, HIGHEST], [HIGHEST] * 70)]
        for wrong in (1, 128, -1, LOWEST, HIGHEST):
            calls += [("earliest_finish_of", wrong), ("earliest_finish_without", wrong)]
        self.assertEqual(asked(calls), [[-11]] * len(calls))

    def test_the_call_behind_a_refused_one_is_found(self):
        calls = [9, 3, 8, 1, 0] + [10, 0] + [11] + [12, -1] + [13] + [14] + [15, 0] + [16]
        self.assertEqual(answers(calls + [0, 7, 7]), [1, -11] * 8 + [1, 0, 1, 7])

    def test_refused_calls_leave_nothing_behind(self):
        calls = [("add_shop", -5, 40, 10), ("set_departure", 5), ("create", 10)]
        self.assertEqual(state_after(calls, 0), (10, []))


class AddShop(unittest.TestCase):
    def test_ordinary(self):
        calls = building(10, THREE)
        self.assertEqual(asked(calls), [[0], [0], [1], [2]])
        self.assertEqual(state_after(calls, 3), (10, THREE))

    def test_edges(self):
        for value in EDGES:
            for shop, allowed in (((value, 9, 9), POSITIONS), ((9, value, 9), TIMES), ((9, 9, value), LOAVES)):
                with self.subTest(shop=shop):
                    calls = [("create", 0), ("add_shop",) + shop]
                    if value in allowed:
                        self.assertEqual(last(calls), [0])
                        self.assertEqual(state_after(calls, 1), (0, [shop]))
                    else:
                        self.assertEqual(last(calls), [-22])
                        self.assertEqual(state_after(calls, 0), (0, []))

    def test_seventh_and_eighth_shop(self):
        calls = building(0, SEVEN)
        self.assertEqual(last(calls), [6])
        self.assertEqual(last(calls + [("add_shop", 4, 4, 4)]), [-28])
        self.assertEqual(state_after(calls + [("add_shop", 4, 4, 4)], 7), (0, SEVEN))

    def test_range_is_checked_ahead_of_the_number_of_shops(self):
        for shop in ((100, 4, 4), (-100, 4, 4), (4, 300, 4), (4, -1, 4), (4, 4, 100), (4, 4, -1)):
            with self.subTest(shop=shop):
                calls = building(0, SEVEN) + [("add_shop",) + shop]
                self.assertEqual(last(calls), [-22])
                self.assertEqual(state_after(calls, 7), (0, SEVEN))

    def test_room_again_after_a_removal(self):
        calls = building(0, SEVEN) + [("remove_shop", 0), ("add_shop", 4, 4, 4)]
        self.assertEqual(asked(calls)[-2:], [[6], [6]])
        self.assertEqual(state_after(calls, 7), (0, SEVEN[1:] + [(4, 4, 4)]))


class RemoveShop(unittest.TestCase):
    def test_each_place(self):
        for i in range(3):
            with self.subTest(i=i):
                calls = building(10, THREE) + [("remove_shop", i)]
                self.assertEqual(last(calls), [2])
                self.assertEqual(state_after(calls, 2), (10, THREE[:i] + THREE[i + 1:]))

    def test_down_to_none(self):
        calls = building(10, THREE) + [("remove_shop", 0)] * 4
        self.assertEqual(asked(calls)[-4:], [[2], [1], [0], [-2]])
        self.assertEqual(state_after(calls, 0), (10, []))

    def test_no_such_shop(self):
        for i in NO_INDEX_OF_THREE:
            with self.subTest(i=i):
                calls = building(10, THREE) + [("remove_shop", i)]
                self.assertEqual(last(calls), [-2])
                self.assertEqual(state_after(calls, 3), (10, THREE))


class Setters(unittest.TestCase):
    """set_position, set_deadline and set_loaves, which have the same errors in the same order."""

    SETTERS = (("set_position", 0, POSITIONS, 100), ("set_deadline", 1, TIMES, 300), ("set_loaves", 2, LOAVES, -1))

    def test_set_position_answers_the_distance(self):
        calls = building(10, THREE) + [("set_position", 0, 7), ("set_position", 0, 7), ("set_position", 0, -99)]
        self.assertEqual(asked(calls)[-3:], [[12], [0], [106]])
        self.assertEqual(state_after(calls, 3), (10, [(-99, 40, 10)] + THREE[1:]))

    def test_set_position_over_the_whole_street(self):
        calls = building(0, [(-99, 0, 0)]) + [("set_position", 0, 99), ("set_position", 0, -99)]
        self.assertEqual(asked(calls)[-2:], [[198], [198]])

    def test_set_deadline_answers_the_previous_value(self):
        calls = building(10, THREE) + [("set_deadline", 1, 16), ("set_deadline", 1, 299), ("set_deadline", 1, 0)]
        self.assertEqual(asked(calls)[-3:], [[20], [16], [299]])
        self.assertEqual(state_after(calls, 3), (10, [THREE[0], (8, 0, 20), THREE[2]]))

    def test_set_loaves_answers_the_previous_value(self):
        calls = building(10, THREE) + [("set_loaves", 2, 99), ("set_loaves", 2, 0), ("set_loaves", 2, 6)]
        self.assertEqual(asked(calls)[-3:], [[5], [99], [0]])
        self.assertEqual(state_after(calls, 3), (10, THREE[:2] + [(-12, 60, 6)]))

    def test_edges(self):
        for name, field, allowed, _ in self.SETTERS:
            for value in EDGES:
                with self.subTest(name=name, value=value):
                    calls = building(10, THREE) + [(name, 1, value)]
                    shop = list(THREE[1])
                    if value in allowed:
                        expected = abs(value - shop[0]) if field == 0 else shop[field]
                        shop[field] = value
                    else:
                        expected = -22
                    self.assertEqual(last(calls), [expected])
                    self.assertEqual(state_after(calls, 3), (10, [THREE[0], tuple(shop), THREE[2]]))

    def test_no_such_shop_also_where_the_value_is_out_of_range(self):
        for name, _, _, wrong in self.SETTERS:
            for i in NO_INDEX_OF_THREE:
                for value in (0, wrong):
                    with self.subTest(name=name, i=i, value=value):
                        calls = building(10, THREE) + [(name, i, value)]
                        self.assertEqual(last(calls), [-2])
                        self.assertEqual(state_after(calls, 3), (10, THREE))

    def test_no_shops_at_all(self):
        for name, _, _, wrong in self.SETTERS:
            for value in (0, wrong):
                self.assertEqual(last([("create", 0), (name, 0, value)]), [-2])


class SetDeparture(unittest.TestCase):
    def test_ordinary(self):
        calls = building(10, THREE) + [("set_departure", 0), ("set_departure", 299), ("set_departure", 12)]
        self.assertEqual(asked(calls)[-3:], [[10], [0], [299]])
        self.assertEqual(state_after(calls, 3), (12, THREE))

    def test_edges(self):
        for departure in EDGES:
            with self.subTest(departure=departure):
                calls = building(10, THREE) + [("set_departure", departure)]
                allowed = departure in TIMES
                self.assertEqual(last(calls), [10] if allowed else [-22])
                self.assertEqual(state_after(calls, 3), (departure if allowed else 10, THREE))


class Guarded(list):
    """A list that fails where it is changed, for a while too."""

    def refuse(self, *given, **named):
        raise AssertionError("what is handed in is changed")

    __setitem__ = __delitem__ = __iadd__ = __imul__ = refuse
    append = extend = insert = pop = remove = clear = sort = reverse = refuse


class Interface(unittest.TestCase):
    REQUEST = (
        [("best_route",), ("create", 300)] + building(10, THREE)
        + [("best_route",), ("arrival_times", [0, 2, 1]), ("check_route", []), ("set_deadline", 0, 16)]
        + [("best_route",), ("max_loaves",), ("latest_departure",), ("arrival_times", [3]), ("remove_shop", 0)]
        + [("earliest_finish",), ("return_time",), ("earliest_finish_of", 4), ("earliest_finish_of", 1)]
        + [("earliest_finish_without", 2), ("earliest_finish_without", 1), ("arrival_times", []), ("describe",)]
    )
    ANSWERS = [
        1, -11, 1, -22, 1, 0, 1, 0, 1, 1, 1, 2, 4, 38, 1, 0, 2, 4, 3, 15, 22, 42, 3, 1, 10, 0, 1, 40,
        1, -33, 3, 25, 1, 2, 1, 2, 1, -22, 1, 2, 1, 38, 1, 50, 1, -22, 1, 18, 1, -2, 1, 18, 1, 0,
        8, 10, 2, 8, 20, 20, -12, 60, 5,
    ]

    def test_counts_stand_ahead_of_the_answers(self):
        self.assertEqual(answers(flat(self.REQUEST)), self.ANSWERS)

    def test_numbers_are_plain_whole_numbers(self):
        told = answers(flat(self.REQUEST))
        self.assertIs(type(told), list)
        self.assertEqual({type(number) for number in told}, {int})

    def test_the_same_list_is_answered_the_same_and_stays_the_same(self):
        calls = flat(self.REQUEST)
        before = list(calls)
        first = answers(calls)
        self.assertEqual(calls, before)
        second = answers(calls)
        self.assertEqual(calls, before)
        self.assertEqual(first, second)

    def test_the_list_is_not_changed_for_a_while_either(self):
        self.assertEqual(answers(Guarded(flat(self.REQUEST))), self.ANSWERS)

    def test_what_is_given_back_is_not_kept(self):
        answers(flat(self.REQUEST)).append(1)
        self.assertEqual(answers(flat(self.REQUEST)), self.ANSWERS)

    def test_no_instance_is_kept_for_the_next_time(self):
        answers(flat(building(10, THREE)))
        self.assertEqual(asked([("earliest_finish",), ("describe",)]), [[-11], [-11]])

    def test_sixty_calls(self):
        calls = [("create", 0)] + [("set_departure", i) for i in range(1, 60)]
        self.assertEqual(asked(calls), [[0]] + [[i] for i in range(59)])

    def test_sixty_calls_of_seventy_numbers(self):
        calls = [("create", 0)] + [("check_route", [HIGHEST] * 70)] * 58 + [("describe",)]
        self.assertEqual(asked(calls), [[0]] + [[-22]] * 58 + [[0, 0]])

    def test_prints_nothing(self):
        out, err = io.StringIO(), io.StringIO()
        with contextlib.redirect_stdout(out), contextlib.redirect_stderr(err):
            answers(flat(self.REQUEST))
        self.assertEqual((out.getvalue(), err.getvalue()), ("", ""))
