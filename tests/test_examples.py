"""The rows of the document's examples, in one request."""

import unittest

from tests.support import (BLOCKING_PAIRS, COUNT_MATCHINGS, IS_POPULAR, IS_STABLE, MATCHING, PERSON_PROPOSING,
                           STABLE_MATCHINGS, SWAP_SIDES, USE_LARGEST_POPULAR, answers, ask, compare, create,
                           set_host_preferences, set_matching, set_person_preferences)

ROWS = [
    (create(2, 2), [0]),
    (set_person_preferences(0, [0, 1]), [2]),
    (set_person_preferences(1, [0]), [1]),
    (set_host_preferences(0, [0, 1]), [2]),
    (set_host_preferences(1, [0]), [1]),
    (PERSON_PROPOSING, [1, 0, -1]),
    (IS_STABLE, [1]),
    (set_matching([1, 0]), [2]),
    (BLOCKING_PAIRS, [1, 0, 0]),
    (compare([0, -1]), [2, 2]),
    (IS_POPULAR, [1]),
    (COUNT_MATCHINGS, [5, 2, 1]),
    (STABLE_MATCHINGS, [1, 0, -1]),
    (USE_LARGEST_POPULAR, [2, 1, 0]),
    (SWAP_SIDES, [2]),
    (MATCHING, [2, 1, 0]),
    (set_matching([1, 1]), [-22]),
]


class Examples(unittest.TestCase):
    def test_rows(self):
        self.assertEqual(ask([call for call, answer in ROWS]), [answer for call, answer in ROWS])

    def test_rows_number_by_number(self):
        given = [0, 2, 2, 1, 0, 2, 0, 1, 1, 1, 1, 0, 2, 0, 2, 0, 1, 2, 1, 1, 0, 5, 7, 3, 2, 1, 0, 8,
                 9, 2, 0, -1, 10, 11, 12, 14, 15, 4, 3, 2, 1, 1]
        told = [1, 0, 1, 2, 1, 1, 1, 2, 1, 1, 3, 1, 0, -1, 1, 1, 1, 2, 3, 1, 0, 0,
                2, 2, 2, 1, 1, 3, 5, 2, 1, 3, 1, 0, -1, 3, 2, 1, 0, 1, 2, 3, 2, 1, 0, 1, -22]
        self.assertEqual(answers(given), told)


if __name__ == "__main__":
    unittest.main()
