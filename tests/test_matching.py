"""set_matching and matching."""

import unittest
from itertools import product

from tests.support import (HIGHEST, IS_STABLE, LOWEST, MATCHING, OUT_OF_RANGE, PERSON_PROPOSING, ask, ask_of, build,
                           is_a_matching, markets, pairs_of, set_matching, spread_markets, told_matching, views)

# Host 2 is acceptable to nobody: 0 and 2 don't list the host, and 1 isn't listed. Nor are 2 and host 1: 2 doesn't
# list the host.
PERSONS = [[0, 1], [1, 0, 2], [0]]
HOSTS = [[2, 1, 0], [0, 1, 2], [2]]


class Matching(unittest.TestCase):
    def check_refused(self, a):
        """The matching is refused, and the instance is what it was before."""
        first = build(PERSONS, HOSTS) + [set_matching([1, -1, 0])]
        for view in views(PERSONS, HOSTS):
            told = ask(first + [set_matching(a)] + view)
            self.assertEqual(told.pop(len(first)), OUT_OF_RANGE, a)
            self.assertEqual(told, ask(first + view), a)

    def test_a_matching_is_kept(self):
        for a in ([-1, -1, -1], [0, -1, -1], [1, 0, -1], [1, -1, 0], [0, 1, -1], [-1, 1, 0]):
            told = ask_of(PERSONS, HOSTS, [set_matching(a), MATCHING, MATCHING])
            self.assertEqual(told, [[pairs_of(a)], told_matching(a), told_matching(a)])

    def test_a_matching_is_replaced(self):
        told = ask_of(PERSONS, HOSTS, [set_matching([1, 0, -1]), set_matching([-1, 1, -1]), MATCHING])
        self.assertEqual(told, [[2], [1], [1, -1, 1, -1]])

    def test_too_short_or_too_long(self):
        for a in ([], [1], [-1], [1, 0], [-1, -1], [1, 0, -1, -1], [-1] * 4, [1, 0, -1, 2], [-1] * 69, [-1] * 70):
            self.check_refused(a)

    def test_a_host_twice(self):
        for a in ([0, 0, -1], [0, -1, 0], [1, 1, -1], [0, 0, 0], [1, 0, 0], [-1, 0, 0]):
            self.check_refused(a)

    def test_a_pair_that_is_not_acceptable(self):
        # In neither list; in the person's alone; in the host's alone (twice); each behind pairs that are allowed.
        for a in ([2, -1, -1], [-1, 2, -1], [-1, -1, 1], [-1, -1, 2], [2, 1, 0], [1, 2, 0], [0, -1, 1], [1, 0, 2]):
            self.check_refused(a)
        for persons, hosts in (([[0]], [[]]), ([[]], [[0]]), ([[]], [[]])):
            told = ask_of(persons, hosts, [set_matching([0]), MATCHING, set_matching([-1])])
            self.assertEqual(told, [OUT_OF_RANGE, [0, -1], [0]])

    def test_a_number_that_is_no_host(self):
        for outside in (LOWEST, -70, -4, -3, -2, 3, 4, 5, HIGHEST):
            for a in ([outside, -1, -1], [1, outside, -1], [1, 0, outside], [outside] * 3):
                self.check_refused(a)

    def test_lists_of_seventy(self):
        for row in ([0] * 70, [-1] * 70, list(range(70)), [1, 0, -1] + [-1] * 67, [LOWEST] * 70, [HIGHEST] * 70):
            self.check_refused(row)

    def test_every_list_in_small_markets(self):
        some = list(markets(1, 2)) + list(markets(2, 1)) + list(markets(2, 2))
        for persons, hosts in some + list(spread_markets(3, 2, 40)) + list(spread_markets(2, 3, 40)):
            for a in product(range(-2, len(hosts) + 1), repeat=len(persons)):
                told = ask_of(persons, hosts, [PERSON_PROPOSING, set_matching(a), MATCHING])
                if is_a_matching(persons, hosts, a):
                    self.assertEqual(told[1:], [[pairs_of(a)], told_matching(a)], (persons, hosts, a))
                else:
                    self.assertEqual(told[1:], [OUT_OF_RANGE, told[0]], (persons, hosts, a))

    def test_asking_changes_nothing(self):
        told = ask_of(PERSONS, HOSTS, [set_matching([-1, 0, -1]), MATCHING, IS_STABLE, MATCHING, PERSON_PROPOSING])
        self.assertEqual(told[1], told[3])
        self.assertEqual(told[4], ask_of(PERSONS, HOSTS, [PERSON_PROPOSING])[0])


if __name__ == "__main__":
    unittest.main()
