"""is_stable and blocking_pairs."""

import unittest

from tests.support import (BLOCKING_PAIRS, IS_STABLE, MATCHING, all_matchings, ask_of, blocking, many_markets,
                           pairs_of, set_matching, told_matching)


class Stability(unittest.TestCase):
    def test_nobody_has_a_partner(self):
        persons, hosts = [[1, 0], [0]], [[0, 1], [1, 0]]
        self.assertEqual(ask_of(persons, hosts, [IS_STABLE, BLOCKING_PAIRS]), [[0], [3, 0, 0, 0, 1, 1, 0]])

    def test_pairs_ascend_whatever_the_lists_say(self):
        everybody = [[3, 1, 0, 2], [2, 3, 1, 0], [0, 2, 1, 3], [1, 0, 3, 2]]
        told = ask_of(everybody, everybody, [BLOCKING_PAIRS])[0]
        self.assertEqual(told, [16] + [number for i in range(4) for h in range(4) for number in (i, h)])

    def test_one_of_the_two_does_not_want(self):
        persons, hosts = [[0, 1], [0, 1]], [[0, 1], [1, 0]]
        told = ask_of(persons, hosts, [set_matching([0, 1]), IS_STABLE, BLOCKING_PAIRS])
        self.assertEqual(told, [[2], [1], [0]])
        persons, hosts = [[0, 1], [1, 0]], [[1, 0], [1, 0]]
        told = ask_of(persons, hosts, [set_matching([0, 1]), IS_STABLE, BLOCKING_PAIRS])
        self.assertEqual(told, [[2], [1], [0]])

    def test_both_want(self):
        persons, hosts = [[0, 1], [0, 1]], [[1, 0], [1, 0]]
        told = ask_of(persons, hosts, [set_matching([0, 1]), IS_STABLE, BLOCKING_PAIRS])
        self.assertEqual(told, [[2], [0], [1, 1, 0]])

    def test_in_one_list_only_they_do_not_block(self):
        for persons, hosts in (([[0]], [[]]), ([[]], [[0]]), ([[]], [[]])):
            self.assertEqual(ask_of(persons, hosts, [IS_STABLE, BLOCKING_PAIRS]), [[1], [0]])
        persons, hosts = [[0, 1], [1]], [[1], [1, 0]]
        told = ask_of(persons, hosts, [set_matching([1, -1]), BLOCKING_PAIRS])
        self.assertEqual(told, [[1], [1, 1, 1]])

    def test_every_matching_of_many_markets(self):
        for persons, hosts in many_markets():
            found = all_matchings(persons, hosts)
            if len(found) > 40:
                found = found[::len(found) // 20]
            for start in range(0, len(found), 12):
                some = found[start:start + 12]
                calls, told = [], []
                for a in some:
                    pairs = blocking(persons, hosts, a)
                    calls += [set_matching(a), IS_STABLE, BLOCKING_PAIRS, MATCHING]
                    told += [[pairs_of(a)], [0 if pairs else 1],
                             [len(pairs)] + [number for pair in pairs for number in pair], told_matching(a)]
                self.assertEqual(ask_of(persons, hosts, calls), told, (persons, hosts))


if __name__ == "__main__":
    unittest.main()
