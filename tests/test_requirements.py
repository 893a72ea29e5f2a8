"""The document's requirements 1 to 5 at many markets, beside matchings found by trying all."""

import unittest
from functools import lru_cache

from tests.support import (COUNT_MATCHINGS, HOST_PROPOSING, IS_POPULAR, IS_STABLE, PERSON_PROPOSING, STABLE_MATCHINGS,
                           USE_LARGEST_POPULAR, acceptable, ask_of, many_markets, pairs_of, popular, popular_matching,
                           rank, set_matching, stable)


class Told:
    """What the program tells of one market."""

    def __init__(self, persons, hosts):
        self.persons, self.hosts = persons, hosts
        calls = [COUNT_MATCHINGS, STABLE_MATCHINGS, PERSON_PROPOSING, IS_STABLE, HOST_PROPOSING, IS_STABLE,
                 USE_LARGEST_POPULAR, IS_POPULAR]
        told = ask_of(persons, hosts, calls)
        n = len(persons)
        self.stable = [told[1][place:place + n] for place in range(1, len(told[1]), n)]
        self.best, self.best_is_stable = told[2][1:], told[3]
        self.worst, self.worst_is_stable = told[4][1:], told[5]
        self.largest, self.largest_is_popular = told[6][1:], told[7]
        self.popular = [row[1:] for row in ask_of(persons, hosts, [popular_matching(k) for k in range(told[0][1])])]

    def __repr__(self):
        return repr((self.persons, self.hosts))


@lru_cache(maxsize=None)
def all_told():
    return [Told(persons, hosts) for persons, hosts in many_markets()]


class Requirements(unittest.TestCase):
    def test_they_are_those_found_by_trying_all(self):
        for told in all_told():
            self.assertEqual(told.stable, stable(told.persons, told.hosts), told)
            self.assertEqual(told.popular, popular(told.persons, told.hosts), told)

    def test_1_stable_matchings_are_popular(self):
        for told in all_told():
            self.assertNotEqual(told.stable, [], told)
            for a in told.stable:
                self.assertIn(a, told.popular, told)
            calls = [call for a in told.stable for call in (set_matching(a), IS_STABLE, IS_POPULAR)]
            asked = ask_of(told.persons, told.hosts, calls)
            self.assertEqual(asked[1::3] + asked[2::3], [[1]] * (2 * len(told.stable)), told)

    def test_2_deferred_acceptance(self):
        for told in all_told():
            self.assertEqual((told.best_is_stable, told.worst_is_stable), ([1], [1]), told)
            for a in stable(told.persons, told.hosts):
                for i, row in enumerate(told.persons):
                    self.assertLessEqual(rank(row, told.best[i]), rank(row, a[i]), told)
                    self.assertGreaterEqual(rank(row, told.worst[i]), rank(row, a[i]), told)

    def test_3_size(self):
        apart = 0
        for told in all_told():
            fewest = min(pairs_of(a) for a in told.popular)
            self.assertGreaterEqual(fewest, max(pairs_of(a) for a in stable(told.persons, told.hosts)), told)
            self.assertEqual(len({tuple(h == -1 for h in a) for a in told.stable}), 1, told)
            apart += fewest < max(pairs_of(a) for a in told.popular)
        self.assertGreater(apart, 20)

    def test_4_no_free_pairs(self):
        for told in all_told():
            for a in told.popular:
                free_persons = [i for i, h in enumerate(a) if h == -1]
                free_hosts = [h for h in range(len(told.hosts)) if h not in a]
                for i in free_persons:
                    self.assertFalse([h for h in free_hosts if acceptable(told.persons, told.hosts, i, h)], told)

    def test_5_largest_popular_matching(self):
        for told in all_told():
            self.assertEqual(told.largest_is_popular, [1], told)
            self.assertIn(told.largest, popular(told.persons, told.hosts), told)
            for a in popular(told.persons, told.hosts):
                self.assertGreaterEqual(pairs_of(told.largest), pairs_of(a), told)


if __name__ == "__main__":
    unittest.main()
