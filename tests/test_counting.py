"""count_matchings and stable_matchings."""

import unittest
from itertools import product
from math import comb, factorial

from tests.support import (COUNT_MATCHINGS, DESCRIBE, HOST_PROPOSING, MATCHING, PERSON_PROPOSING, STABLE_MATCHINGS,
                           all_matchings, ask, ask_of, create, full_market, many_markets, popular,
                           set_matching, stable, told_listing, told_market, turned_market)

# Everybody's first choice likes them least.
AROUND = turned_market(3, 3)


class Counting(unittest.TestCase):
    def test_ordinary(self):
        persons, hosts = [[0, 1], [0]], [[0, 1], [0]]
        self.assertEqual(ask_of(persons, hosts, [COUNT_MATCHINGS, STABLE_MATCHINGS]), [[5, 2, 1], [1, 0, -1]])
        told = ask_of(*AROUND, [COUNT_MATCHINGS, STABLE_MATCHINGS])
        self.assertEqual(told, [[34, 3, 3], [3, 0, 1, 2, 1, 2, 0, 2, 0, 1]])

    def test_one_person_and_one_host(self):
        self.assertEqual(ask_of([[0]], [[0]], [COUNT_MATCHINGS, STABLE_MATCHINGS]), [[2, 1, 1], [1, 0]])

    def test_stable_matchings_with_persons_who_have_no_host(self):
        # Person 0 is in no host's list, person 2 has an empty list.
        persons, hosts = [[0, 1], [0, 1], [], [1, 0]], [[3, 1], [1, 3]]
        told = ask_of(persons, hosts, [STABLE_MATCHINGS])
        self.assertEqual(told, [[2, -1, 0, -1, 1, -1, 1, -1, 0]])

    def test_all_lists_empty(self):
        for n, m in product(range(1, 5), repeat=2):
            told = ask([create(n, m), COUNT_MATCHINGS, STABLE_MATCHINGS])
            self.assertEqual(told, [[0], [1, 1, 1], [1] + [-1] * n], (n, m))

    def test_one_list_of_the_two_only(self):
        for n, m in product(range(1, 5), repeat=2):
            willing_persons, willing_hosts = full_market(n, m)
            for persons, hosts in ((willing_persons, [[]] * m), ([[]] * n, willing_hosts)):
                told = ask_of(persons, hosts, [COUNT_MATCHINGS, STABLE_MATCHINGS])
                self.assertEqual(told, [[1, 1, 1], [1] + [-1] * n], (n, m))

    def test_all_lists_full(self):
        for n, m in product(range(1, 5), repeat=2):
            persons, hosts = full_market(n, m)
            told = ask_of(persons, hosts, [COUNT_MATCHINGS, STABLE_MATCHINGS])
            every = sum(comb(n, pairs) * comb(m, pairs) * factorial(pairs) for pairs in range(min(n, m) + 1))
            self.assertEqual((told[0][0], told[0][2]), (every, 1), (n, m))
            self.assertEqual(told[1], [1] + [i if i < m else -1 for i in range(n)], (n, m))

    def test_the_most_stable_matchings_of_four_and_four(self):
        persons = [[0, 1, 2, 3], [1, 0, 3, 2], [2, 3, 0, 1], [3, 2, 1, 0]]
        hosts = [[3, 2, 1, 0], [2, 3, 0, 1], [1, 0, 3, 2], [0, 1, 2, 3]]
        told = ask_of(persons, hosts, [COUNT_MATCHINGS, STABLE_MATCHINGS])
        self.assertEqual((told[0][0], told[0][2]), (209, 10))
        self.assertEqual(told[1], told_listing(stable(persons, hosts)))

    def test_the_current_matching_stays_and_does_not_matter(self):
        for a in all_matchings(*AROUND):
            told = ask_of(*AROUND, [set_matching(a), COUNT_MATCHINGS, MATCHING, STABLE_MATCHINGS, MATCHING, DESCRIBE])
            self.assertEqual(told[1], [34, 3, 3])
            self.assertEqual(told[3], [3, 0, 1, 2, 1, 2, 0, 2, 0, 1])
            self.assertEqual(told[2], told[4])
            self.assertEqual(told[2][1:], a)
            self.assertEqual(told[5], told_market(*AROUND))

    def test_many_markets(self):
        several = 0
        for persons, hosts in many_markets():
            found = stable(persons, hosts)
            counts = [len(all_matchings(persons, hosts)), len(popular(persons, hosts)), len(found)]
            told = ask_of(persons, hosts, [COUNT_MATCHINGS, STABLE_MATCHINGS])
            self.assertEqual(told, [counts, told_listing(found)], (persons, hosts))
            several += len(found) > 1
        self.assertGreater(several, 100)

    def test_deferred_acceptance_gives_two_of_them(self):
        for persons, hosts in many_markets():
            told = ask_of(persons, hosts, [STABLE_MATCHINGS, PERSON_PROPOSING, HOST_PROPOSING])
            n = len(persons)
            listed = [told[0][place:place + n] for place in range(1, len(told[0]), n)]
            self.assertIn(told[1][1:], listed, (persons, hosts))
            self.assertIn(told[2][1:], listed, (persons, hosts))


if __name__ == "__main__":
    unittest.main()
