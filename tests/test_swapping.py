"""swap_sides and describe."""

import unittest
from itertools import product

from tests.support import (BLOCKING_PAIRS, COUNT_MATCHINGS, DESCRIBE, HIGHEST, HOST_PROPOSING, IS_POPULAR, IS_STABLE,
                           LOWEST, MATCHING, NOT_THERE, OUT_OF_RANGE, PERSON_PROPOSING, STABLE_MATCHINGS, SWAP_SIDES,
                           USE_LARGEST_POPULAR, all_matchings, ask, ask_of, build, compare, create, full_market,
                           largest_popular, many_markets, pairs_of, set_host_preferences, set_matching,
                           set_person_preferences, sides_exchanged, stable, told_listing, told_market, told_matching)

PERSONS = [[2, 0], [2, 1, 0]]
HOSTS = [[0, 1], [], [1, 0]]


class Describe(unittest.TestCase):
    def test_ordinary(self):
        self.assertEqual(ask_of(PERSONS, HOSTS, [DESCRIBE]), [[2, 3, 2, 2, 0, 3, 2, 1, 0, 2, 0, 1, 0, 2, 1, 0]])
        self.assertEqual(ask_of([[0]], [[]], [DESCRIBE]), [[1, 1, 1, 0, 0]])
        self.assertEqual(ask_of([[]], [[0]], [DESCRIBE]), [[1, 1, 0, 1, 0]])

    def test_a_list_that_is_replaced(self):
        told = ask_of(PERSONS, HOSTS, [set_person_preferences(1, [1]), DESCRIBE, set_host_preferences(0, []), DESCRIBE])
        self.assertEqual(told[1], told_market([PERSONS[0], [1]], HOSTS))
        self.assertEqual(told[3], told_market([PERSONS[0], [1]], [[], [], [1, 0]]))

    def test_the_current_matching_stays_and_does_not_matter(self):
        for a in all_matchings(PERSONS, HOSTS):
            told = ask_of(PERSONS, HOSTS, [set_matching(a), DESCRIBE, MATCHING, DESCRIBE])
            self.assertEqual(told[1:], [told_market(PERSONS, HOSTS), told_matching(a), told_market(PERSONS, HOSTS)])

    def test_a_create_behind_another(self):
        told = ask_of(PERSONS, HOSTS, [create(3, 1), DESCRIBE])
        self.assertEqual(told, [[0], [3, 1, 0, 0, 0, 0]])

    def test_many_markets(self):
        for persons, hosts in many_markets():
            self.assertEqual(ask_of(persons, hosts, [DESCRIBE]), [told_market(persons, hosts)])


class SwapSides(unittest.TestCase):
    def test_sides_of_different_size(self):
        calls = [set_matching([2, -1]), SWAP_SIDES, MATCHING, DESCRIBE, SWAP_SIDES, MATCHING, DESCRIBE]
        told = ask_of(PERSONS, HOSTS, calls)
        self.assertEqual(told[:4], [[1], [3], [1, -1, -1, 0], [3, 2, 2, 0, 1, 0, 2, 1, 0, 2, 2, 0, 3, 2, 1, 0]])
        self.assertEqual(told[4:], [[2], [1, 2, -1], told_market(PERSONS, HOSTS)])

    def test_more_persons_than_hosts(self):
        calls = [set_matching([1, -1, -1]), SWAP_SIDES, MATCHING, DESCRIBE]
        told = ask_of(HOSTS, PERSONS, calls)
        self.assertEqual(told, [[1], [2], [1, -1, 0], told_market(PERSONS, HOSTS)])

    def test_every_size_without_lists(self):
        for n, m in product(range(1, 5), repeat=2):
            told = ask([create(n, m), SWAP_SIDES, MATCHING, DESCRIBE, SWAP_SIDES, MATCHING, DESCRIBE])
            self.assertEqual(told[1:4], [[m], [0] + [-1] * m, [m, n] + [0] * (n + m)], (n, m))
            self.assertEqual(told[4:], [[n], [0] + [-1] * n, [n, m] + [0] * (n + m)], (n, m))

    def test_every_size_with_full_lists(self):
        for n, m in product(range(1, 5), repeat=2):
            persons, hosts = full_market(n, m)
            a = [m - 1 - i if i < m else -1 for i in range(n)]
            told = ask_of(persons, hosts, [set_matching(a), SWAP_SIDES, MATCHING, DESCRIBE])
            self.assertEqual(told[1:], [[m], told_matching(sides_exchanged(a, m)), told_market(hosts, persons)], (n, m))

    def test_lists_that_are_set_behind_it(self):
        calls = [set_matching([2, -1]), SWAP_SIDES, set_person_preferences(2, [0]), MATCHING, DESCRIBE,
                 set_host_preferences(1, [0, 2, 1]), DESCRIBE, SWAP_SIDES, DESCRIBE]
        told = ask_of(PERSONS, HOSTS, calls)
        hosts = [[0, 1], [], [0]]
        self.assertEqual(told[2:5], [[1], [0, -1, -1, -1], told_market(hosts, PERSONS)])
        self.assertEqual(told[5:7], [[3], told_market(hosts, [[2, 0], [0, 2, 1]])])
        self.assertEqual(told[7:], [[2], told_market([[2, 0], [0, 2, 1]], hosts)])

    def test_who_is_there_behind_it(self):
        calls = [SWAP_SIDES, set_person_preferences(2, [1, 0]), set_person_preferences(3, []),
                 set_host_preferences(1, [2]), set_host_preferences(2, []), set_person_preferences(0, [2]),
                 set_host_preferences(0, [3]), set_host_preferences(0, [2, 1]), set_person_preferences(0, [0])]
        told = ask([create(2, 3)] + calls)[1:]
        self.assertEqual(told, [[3], [2], NOT_THERE, [1], NOT_THERE, OUT_OF_RANGE, OUT_OF_RANGE, [2], [1]])

    def test_a_matching_that_is_set_behind_it(self):
        calls = [SWAP_SIDES, set_matching([0, 1]), set_matching([0, -1, 1]), MATCHING, compare([-1, -1, 0]),
                 compare([0, 1]), SWAP_SIDES, MATCHING]
        told = ask_of(PERSONS, HOSTS, calls)
        self.assertEqual(told[1:4], [OUT_OF_RANGE, [2], [2, 0, -1, 1]])
        # Persons 0 and host 1 lose their partner and person 2 a better one; host 0 gets a better one.
        self.assertEqual(told[4:], [[3, 1], OUT_OF_RANGE, [2], [2, 0, 2]])

    def test_each_call_is_of_the_exchanged_market(self):
        calls = [DESCRIBE, COUNT_MATCHINGS, STABLE_MATCHINGS, BLOCKING_PAIRS, IS_STABLE, IS_POPULAR,
                 PERSON_PROPOSING, HOST_PROPOSING, USE_LARGEST_POPULAR, MATCHING]
        for persons, hosts in list(many_markets())[::5]:
            here = ask_of(persons, hosts, [SWAP_SIDES] + calls)[1:]
            self.assertEqual(here, ask_of(hosts, persons, calls), (persons, hosts))
            self.assertEqual(here[2], told_listing(stable(hosts, persons)))
            self.assertEqual(here[9], told_matching(largest_popular(hosts, persons)))

    def test_refusals_behind_it_change_nothing(self):
        refused = [(set_person_preferences(3, []), NOT_THERE), (set_host_preferences(2, []), NOT_THERE),
                   (set_person_preferences(0, [2]), OUT_OF_RANGE), (set_matching([0, 1]), OUT_OF_RANGE),
                   (compare([HIGHEST, -1, LOWEST]), OUT_OF_RANGE), (create(5, 1), OUT_OF_RANGE)]
        for call, code in refused:
            told = ask_of(PERSONS, HOSTS, [set_matching([2, -1]), SWAP_SIDES, call, DESCRIBE, MATCHING])
            self.assertEqual(told[2:], [code, told_market(HOSTS, PERSONS), [1, -1, -1, 0]], call)

    def test_used_twice_it_changes_nothing_and_both_keep_what_the_matching_is(self):
        look = [DESCRIBE, MATCHING, IS_STABLE, IS_POPULAR]
        seen = set()
        for persons, hosts in many_markets():
            found = all_matchings(persons, hosts)
            for a in found[::len(found) // 4 + 1] + [largest_popular(persons, hosts)] + stable(persons, hosts)[:1]:
                told = ask_of(persons, hosts, [set_matching(a)] + look + [SWAP_SIDES] + look + [SWAP_SIDES] + look)
                before, between, behind = told[1:5], told[6:10], told[11:15]
                self.assertEqual((told[5], told[10]), ([len(hosts)], [len(persons)]))
                self.assertEqual(before[:2], [told_market(persons, hosts), told_matching(a)])
                partners = [pairs_of(a)] + sides_exchanged(a, len(hosts))
                self.assertEqual(between[:2], [told_market(hosts, persons), partners])
                self.assertEqual(between[2:], before[2:], (persons, hosts, a))
                self.assertEqual(behind, before, (persons, hosts, a))
                seen.add((before[2][0], before[3][0]))
        self.assertEqual(seen, {(0, 0), (0, 1), (1, 1)})

    def test_host_proposing_is_person_proposing_between_two_of_it(self):
        for persons, hosts in many_markets():
            first = build(persons, hosts)
            there = ask(first + [SWAP_SIDES, PERSON_PROPOSING, SWAP_SIDES, MATCHING])
            here = ask(first + [HOST_PROPOSING, MATCHING])
            self.assertEqual(there[-1], here[-1], (persons, hosts))
            self.assertEqual(here[-2], here[-1])
            there = ask(first + [SWAP_SIDES, HOST_PROPOSING, SWAP_SIDES, MATCHING])
            self.assertEqual(there[-1], ask(first + [PERSON_PROPOSING])[-1], (persons, hosts))


if __name__ == "__main__":
    unittest.main()
