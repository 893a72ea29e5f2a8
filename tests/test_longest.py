"""Requests of 60 calls at markets of 4 persons and 4 hosts with full lists."""

import unittest

from tests.support import (COUNT_MATCHINGS, IS_POPULAR, MATCHING, MOST_CALLS, NOT_THERE, STABLE_MATCHINGS,
                           USE_LARGEST_POPULAR, ask, build, full_market, largest_popular, popular, popular_matching,
                           spread_markets, stable, told_listing, told_matching, turned_market)

MOST_STABLE = ([[0, 1, 2, 3], [1, 0, 3, 2], [2, 3, 0, 1], [3, 2, 1, 0]],
               [[3, 2, 1, 0], [2, 3, 0, 1], [1, 0, 3, 2], [0, 1, 2, 3]])


def largest_markets():
    return [full_market(4, 4), turned_market(4, 4), MOST_STABLE] + list(spread_markets(4, 4, 2, 4))


class Longest(unittest.TestCase):
    def check(self, persons, hosts, chosen):
        """So many of these pairs of a call and its answer that the request has 60 calls."""
        first = build(persons, hosts)
        rest = MOST_CALLS - len(first)
        some = (chosen * rest)[:rest]
        calls = first + [call for call, answer in some]
        self.assertEqual(len(calls), 60)
        self.assertEqual(ask(calls)[len(first):], [answer for call, answer in some], (persons, hosts))

    def rows(self, persons, hosts):
        found = popular(persons, hosts)
        return [
            (COUNT_MATCHINGS, [209, len(found), len(stable(persons, hosts))]),
            (STABLE_MATCHINGS, told_listing(stable(persons, hosts))),
            (popular_matching(0), told_matching(found[0])),
            (popular_matching(len(found) - 1), told_matching(found[-1])),
            (popular_matching(len(found)), NOT_THERE),
            (USE_LARGEST_POPULAR, told_matching(largest_popular(persons, hosts))),
        ]

    def test_one_call_again_and_again(self):
        for persons, hosts in largest_markets():
            for row in self.rows(persons, hosts):
                self.check(persons, hosts, [row])
            self.check(persons, hosts, [(IS_POPULAR, [0])])
            best = told_matching(largest_popular(persons, hosts))
            self.check(persons, hosts, [(USE_LARGEST_POPULAR, best)] + [(IS_POPULAR, [1])] * 59)

    def test_the_five_calls_in_turn(self):
        for persons, hosts in largest_markets():
            rows = self.rows(persons, hosts)
            best = told_matching(largest_popular(persons, hosts))
            self.check(persons, hosts, rows + [(IS_POPULAR, [1]), (MATCHING, best)])

    def test_sixty_calls_without_a_market(self):
        calls = [IS_POPULAR, COUNT_MATCHINGS, STABLE_MATCHINGS, popular_matching(0), USE_LARGEST_POPULAR] * 12
        self.assertEqual(ask(calls), [[-11]] * 60)


if __name__ == "__main__":
    unittest.main()
