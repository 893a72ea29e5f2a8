"""compare."""

import unittest
from itertools import product

from tests.support import (DESCRIBE, HIGHEST, LOWEST, MATCHING, OUT_OF_RANGE, all_matchings, ask, ask_of, build,
                           compare, is_a_matching, many_markets, markets, pairs_of, set_matching, spread_markets,
                           told_market, votes)

# Host 2 is acceptable to nobody: 0 and 2 don't list the host, and 1 isn't listed. Nor are 2 and host 1: 2 doesn't
# list the host.
PERSONS = [[0, 1], [1, 0, 2], [0]]
HOSTS = [[2, 1, 0], [0, 1, 2], [2]]


class Compare(unittest.TestCase):
    def check_refused(self, a):
        """The matching is refused, and the instance is what it was before."""
        calls = [set_matching([1, -1, 0]), DESCRIBE, MATCHING, compare(a), DESCRIBE, MATCHING]
        told = ask_of(PERSONS, HOSTS, calls)
        self.assertEqual(told[3], OUT_OF_RANGE, a)
        self.assertEqual(told[1:3], [told_market(PERSONS, HOSTS), [2, 1, -1, 0]])
        self.assertEqual(told[4:6], told[1:3], a)

    def test_with_itself_nobody_votes(self):
        for a in all_matchings(PERSONS, HOSTS):
            self.assertEqual(ask_of(PERSONS, HOSTS, [set_matching(a), compare(a)])[1], [0, 0])

    def test_whoever_has_a_partner_prefers_that_to_having_none(self):
        for a in all_matchings(PERSONS, HOSTS):
            nobody = [-1] * 3
            told = ask_of(PERSONS, HOSTS, [compare(a), set_matching(a), compare(nobody)])
            self.assertEqual((told[0], told[2]), ([0, 2 * pairs_of(a)], [2 * pairs_of(a), 0]))

    def test_persons_and_hosts_vote(self):
        # Both persons would rather have the first matching, both hosts the second.
        persons, hosts = [[0, 1], [1, 0]], [[1, 0], [0, 1]]
        told = ask_of(persons, hosts, [set_matching([0, 1]), compare([1, 0]), set_matching([1, 0]), compare([0, 1])])
        self.assertEqual(told[1::2], [[2, 2], [2, 2]])
        # All but host 1, who has a partner in the one matching and none in the other, agree.
        persons, hosts = [[0, 1]], [[0], [0]]
        told = ask_of(persons, hosts, [set_matching([0]), compare([1]), set_matching([1]), compare([0])])
        self.assertEqual(told[1::2], [[2, 1], [1, 2]])
        # The same two matchings, but for the person who now prefers host 1.
        told = ask_of([[1, 0]], hosts, [set_matching([0]), compare([1]), set_matching([1]), compare([0])])
        self.assertEqual(told[1::2], [[1, 2], [2, 1]])

    def test_who_has_the_same_partner_does_not_vote(self):
        persons, hosts = [[0], [1, 2], [2, 1]], [[0], [1, 2], [1, 2]]
        told = ask_of(persons, hosts, [set_matching([0, 1, 2]), compare([0, 2, 1]), compare([0, 1, -1])])
        self.assertEqual(told[1:], [[3, 1], [2, 0]])

    def test_the_current_votes_come_first(self):
        told = ask_of([[0]], [[0]], [compare([0]), set_matching([0]), compare([-1])])
        self.assertEqual(told, [[0, 2], [1], [2, 0]])

    def test_the_current_matching_stays(self):
        told = ask_of(PERSONS, HOSTS, [set_matching([0, 1, -1]), compare([1, 0, -1]), MATCHING])
        self.assertEqual(told[2], [2, 0, 1, -1])

    def test_too_short_or_too_long(self):
        for a in ([], [1], [-1], [1, 0], [-1, -1], [1, 0, -1, -1], [-1] * 4, [1, 0, -1, 2], [-1] * 69, [-1] * 70):
            self.check_refused(a)

    def test_a_host_twice(self):
        for a in ([0, 0, -1], [0, -1, 0], [1, 1, -1], [0, 0, 0], [1, 0, 0], [-1, 0, 0]):
            self.check_refused(a)

    def test_a_pair_that_is_not_acceptable(self):
        # In neither list; in the person's alone; in the host's alone (twice); each behind pairs that are allowed.
        for a in ([2, -1, -1], [-1, 2, -1], [-1, -1, 1], [-1, -1, 2], [2, 1, 0], [1, 2, 0], [0, -1, 1], [1, 0, 2]):
            self.check_refused(a)
        for persons, hosts in (([[0]], [[]]), ([[]], [[0]]), ([[]], [[]])):
            self.assertEqual(ask_of(persons, hosts, [compare([0]), compare([-1])]), [OUT_OF_RANGE, [0, 0]])

    def test_a_number_that_is_no_host(self):
        for outside in (LOWEST, -70, -4, -3, -2, 3, 4, 5, HIGHEST):
            for a in ([outside, -1, -1], [1, outside, -1], [1, 0, outside], [outside] * 3):
                self.check_refused(a)

    def test_lists_of_seventy(self):
        for row in ([0] * 70, [-1] * 70, list(range(70)), [1, 0, -1] + [-1] * 67, [LOWEST] * 70, [HIGHEST] * 70):
            self.check_refused(row)

    def test_every_list_in_small_markets(self):
        some = list(markets(1, 2)) + list(markets(2, 1)) + list(spread_markets(2, 2, 100))
        for persons, hosts in some + list(spread_markets(3, 2, 30)) + list(spread_markets(2, 3, 30)):
            current = all_matchings(persons, hosts)[0]
            first = build(persons, hosts) + [set_matching(current)]
            for a in product(range(-2, len(hosts) + 1), repeat=len(persons)):
                told = ask(first + [compare(a)])[-1]
                if is_a_matching(persons, hosts, a):
                    both = [votes(persons, hosts, current, a), votes(persons, hosts, a, current)]
                    self.assertEqual(told, both, (persons, hosts, a))
                else:
                    self.assertEqual(told, OUT_OF_RANGE, (persons, hosts, a))

    def test_many_markets(self):
        for persons, hosts in many_markets():
            found = all_matchings(persons, hosts)
            current = found[len(found) // 3]
            some = found[::len(found) // 40 + 1]
            told = ask_of(persons, hosts, [set_matching(current)] + [compare(a) for a in some])
            expected = [[votes(persons, hosts, current, a), votes(persons, hosts, a, current)] for a in some]
            self.assertEqual(told[1:], expected, (persons, hosts, current))


if __name__ == "__main__":
    unittest.main()
