"""The rows of the document's examples, as one list of calls."""

import unittest

from tests.requests import asked

ROWS = [
    (("create", 10), [0]),
    (("add_shop", -5, 40, 10), [0]),
    (("add_shop", 8, 20, 20), [1]),
    (("add_shop", -12, 60, 5), [2]),
    (("best_route",), [38, 1, 0, 2]),
    (("arrival_times", [0, 2, 1]), [3, 15, 22, 42]),
    (("check_route", [0, 2, 1]), [0, 42, 35]),
    (("latest_departure",), [12]),
    (("return_time",), [50]),
    (("set_deadline", 0, 16), [40]),
    (("best_route",), [-33]),
    (("max_loaves",), [25, 1, 2]),
    (("earliest_finish_of", 5), [22]),
    (("earliest_finish_without", 0), [38]),
    (("set_position", 3, 0), [-2]),
]


class Examples(unittest.TestCase):
    def test_the_document_s_rows(self):
        self.assertEqual(asked([call for call, _ in ROWS]), [answer for _, answer in ROWS])
