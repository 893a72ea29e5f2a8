"""is_popular, popular_matching and use_largest_popular."""

import unittest
from itertools import product

from tests.support import (COUNT_MATCHINGS, DESCRIBE, HIGHEST, IS_POPULAR, IS_STABLE, LOWEST, MATCHING, NOT_THERE,
                           USE_LARGEST_POPULAR, all_matchings, ask, ask_of, create, full_market, largest_popular,
                           many_markets, pairs_of, popular, popular_matching, set_matching, spread_markets,
                           told_market, told_matching, turned_market)

# The document's example: the second of the two popular matchings has more pairs.
SMALL_FIRST = ([[0, 1], [0]], [[0, 1], [0]])
# The same with the persons' numbers exchanged: the first one has more pairs, as -1 comes behind host 0.
LARGE_FIRST = ([[0], [0, 1]], [[1, 0], [1]])
# Everybody's first choice likes them least, so that both complete matchings are popular.
TWO_LARGE = ([[0, 1], [1, 0]], [[1, 0], [0, 1]])


def check_each_number(case, persons, hosts):
    """Each popular matching is told by its number, in order, and no other number is one's."""
    wanted = popular(persons, hosts)
    calls = [COUNT_MATCHINGS] + [popular_matching(k) for k in range(len(wanted))]
    told = ask_of(persons, hosts, calls + [popular_matching(len(wanted)), popular_matching(-1), MATCHING])
    case.assertEqual(told[0][1], len(wanted), (persons, hosts))
    case.assertEqual(told[1:-3], [told_matching(a) for a in wanted], (persons, hosts))
    case.assertEqual(told[-3:], [NOT_THERE, NOT_THERE, told_matching([-1] * len(persons))], (persons, hosts))


class IsPopular(unittest.TestCase):
    def test_a_stable_one_and_one_that_is_not(self):
        calls = [set_matching([0, -1]), IS_STABLE, IS_POPULAR, set_matching([1, 0]), IS_STABLE, IS_POPULAR]
        self.assertEqual(ask_of(*SMALL_FIRST, calls), [[1], [1], [1], [2], [0], [1]])

    def test_one_that_loses(self):
        for a in ([-1, -1], [-1, 0], [1, -1]):
            self.assertEqual(ask_of(*SMALL_FIRST, [set_matching(a), IS_POPULAR])[1], [0], a)

    def test_a_tie_is_no_loss(self):
        for a in ([0, 1], [1, 0]):
            self.assertEqual(ask_of(*TWO_LARGE, [set_matching(a), IS_POPULAR]), [[2], [1]])

    def test_nobody_has_a_partner_though_two_are_acceptable(self):
        self.assertEqual(ask_of([[0]], [[0]], [IS_POPULAR, set_matching([0]), IS_POPULAR]), [[0], [1], [1]])

    def test_one_list_of_the_two_only(self):
        for persons, hosts in (([[0]], [[]]), ([[]], [[0]]), ([[]], [[]])):
            self.assertEqual(ask_of(persons, hosts, [IS_POPULAR, MATCHING]), [[1], [0, -1]])

    def test_every_matching_of_many_markets(self):
        both = {0: 0, 1: 0}
        for persons, hosts in many_markets():
            wanted = popular(persons, hosts)
            found = all_matchings(persons, hosts)
            if len(found) > 30:
                found = wanted + found[::len(found) // 10]
            for start in range(0, len(found), 17):
                some = found[start:start + 17]
                calls = [call for a in some for call in (set_matching(a), IS_POPULAR, MATCHING)]
                told = ask_of(persons, hosts, calls)
                self.assertEqual(told[2::3], [told_matching(a) for a in some])
                self.assertEqual(told[1::3], [[int(a in wanted)] for a in some], (persons, hosts, some))
                for answer in told[1::3]:
                    both[answer[0]] += 1
        self.assertGreater(min(both.values()), 2000)


class PopularMatching(unittest.TestCase):
    def test_ordinary(self):
        told = ask_of(*SMALL_FIRST, [popular_matching(0), popular_matching(1)])
        self.assertEqual(told, [[1, 0, -1], [2, 1, 0]])
        told = ask_of(*TWO_LARGE, [popular_matching(1), popular_matching(0)])
        self.assertEqual(told, [[2, 1, 0], [2, 0, 1]])

    def test_no_host_comes_behind_all_hosts(self):
        told = ask_of(*LARGE_FIRST, [popular_matching(0), popular_matching(1)])
        self.assertEqual(told, [[2, 0, 1], [1, -1, 0]])

    def test_a_number_there_is_no_matching_of(self):
        for k in (LOWEST, LOWEST + 1, -3, -2, -1, 2, 3, 5, 70, HIGHEST):
            calls = [set_matching([1, -1]), DESCRIBE, MATCHING, popular_matching(k), DESCRIBE, MATCHING]
            told = ask_of(*SMALL_FIRST, calls)
            self.assertEqual(told[3], NOT_THERE, k)
            self.assertEqual(told[1:3], [told_market(*SMALL_FIRST), [1, 1, -1]])
            self.assertEqual(told[4:6], told[1:3], k)

    def test_the_first_number_there_is_no_matching_of(self):
        self.assertEqual(ask([create(1, 1), popular_matching(0), popular_matching(1)])[1:], [[0, -1], NOT_THERE])
        for persons, hosts in (full_market(4, 4), turned_market(4, 4)):
            found = popular(persons, hosts)
            told = ask_of(persons, hosts, [popular_matching(len(found) - 1), popular_matching(len(found))])
            self.assertEqual(told, [told_matching(found[-1]), NOT_THERE])

    def test_the_current_matching_stays_and_does_not_matter(self):
        for a in ([-1, -1], [0, -1], [1, 0], [1, -1], [-1, 0]):
            calls = [set_matching(a), popular_matching(0), MATCHING, popular_matching(1), MATCHING]
            told = ask_of(*SMALL_FIRST, calls)
            self.assertEqual(told[1:], [[1, 0, -1], told_matching(a), [2, 1, 0], told_matching(a)])

    def test_many_markets(self):
        several, ordered = 0, 0
        for persons, hosts in many_markets():
            check_each_number(self, persons, hosts)
            found = popular(persons, hosts)
            several += len(found) > 1
            ordered += found != sorted(found)
        self.assertGreater(several, 100)
        self.assertGreater(ordered, 20)


class UseLargestPopular(unittest.TestCase):
    def test_it_becomes_the_current_matching(self):
        for first in ([-1, -1], [0, -1], [1, 0], [1, -1]):
            calls = [set_matching(first), USE_LARGEST_POPULAR, MATCHING, IS_STABLE, IS_POPULAR, DESCRIBE]
            told = ask_of(*SMALL_FIRST, calls)
            self.assertEqual(told[1:], [[2, 1, 0], [2, 1, 0], [0], [1], told_market(*SMALL_FIRST)])

    def test_the_larger_one_comes_first_or_last(self):
        self.assertEqual(ask_of(*SMALL_FIRST, [USE_LARGEST_POPULAR]), [[2, 1, 0]])
        self.assertEqual(ask_of(*LARGE_FIRST, [USE_LARGEST_POPULAR]), [[2, 0, 1]])

    def test_the_first_of_several(self):
        calls = [set_matching([1, 0]), USE_LARGEST_POPULAR, MATCHING]
        self.assertEqual(ask_of(*TWO_LARGE, calls)[1:], [[2, 0, 1]] * 2)

    def test_the_first_of_several_behind_a_smaller_one(self):
        # Persons and hosts 0 and 1 are the document's example; 2 and 3 have two stable matchings.
        persons, hosts = [[0, 1], [0], [2, 3], [3, 2]], [[0, 1], [0], [3, 2], [2, 3]]
        found = popular(persons, hosts)
        self.assertEqual([pairs_of(a) for a in found], [3, 3, 4, 4])
        told = ask_of(persons, hosts, [USE_LARGEST_POPULAR, MATCHING])
        self.assertEqual(told, [[4, 1, 0, 2, 3]] * 2)

    def test_many_markets(self):
        unstable, several = 0, 0
        for persons, hosts in many_markets():
            best = largest_popular(persons, hosts)
            calls = [USE_LARGEST_POPULAR, MATCHING, IS_POPULAR, IS_STABLE, DESCRIBE, USE_LARGEST_POPULAR]
            told = ask_of(persons, hosts, calls)
            self.assertEqual(told[:3], [told_matching(best), told_matching(best), [1]], (persons, hosts))
            self.assertEqual(told[4:], [told_market(persons, hosts), told_matching(best)])
            unstable += told[3] == [0]
            several += sum(1 for a in popular(persons, hosts) if pairs_of(a) == pairs_of(best)) > 1
        self.assertGreater(unstable, 20)
        self.assertGreater(several, 100)


class Edges(unittest.TestCase):
    def test_all_lists_empty(self):
        for n, m in product(range(1, 5), repeat=2):
            calls = [create(n, m), IS_POPULAR, popular_matching(0), popular_matching(1), USE_LARGEST_POPULAR, MATCHING]
            nobody = [0] + [-1] * n
            self.assertEqual(ask(calls), [[0], [1], nobody, NOT_THERE, nobody, nobody], (n, m))

    def test_one_side_lists_everybody_and_the_other_nobody(self):
        for n, m in product(range(1, 5), repeat=2):
            nobody = [0] + [-1] * n
            willing_persons, willing_hosts = full_market(n, m)
            for persons, hosts in ((willing_persons, [[]] * m), ([[]] * n, willing_hosts)):
                calls = [IS_POPULAR, popular_matching(0), popular_matching(1), USE_LARGEST_POPULAR]
                self.assertEqual(ask_of(persons, hosts, calls), [[1], nobody, NOT_THERE, nobody], (n, m))

    def test_one_of_the_two_sides_has_one_member(self):
        persons, hosts = [[2, 0, 3, 1]], [[0]] * 4
        calls = [popular_matching(0), popular_matching(1), USE_LARGEST_POPULAR, MATCHING]
        self.assertEqual(ask_of(persons, hosts, calls), [[1, 2], NOT_THERE, [1, 2], [1, 2]])
        chosen = [1, -1, -1, 0, -1]
        self.assertEqual(ask_of(hosts, persons, calls), [chosen, NOT_THERE, chosen, chosen])

    def test_all_lists_full(self):
        for n, m in product(range(1, 5), repeat=2):
            chosen = [i if i < m else -1 for i in range(n)]
            told = ask_of(*full_market(n, m), [popular_matching(0), USE_LARGEST_POPULAR])
            self.assertEqual(told, [told_matching(chosen)] * 2, (n, m))
            check_each_number(self, *full_market(n, m))
            check_each_number(self, *turned_market(n, m))
        for persons, hosts in spread_markets(4, 4, 20, 4):
            check_each_number(self, persons, hosts)


if __name__ == "__main__":
    unittest.main()
