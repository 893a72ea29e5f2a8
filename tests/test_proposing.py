"""person_proposing and host_proposing."""

import unittest

from tests.support import (BLOCKING_PAIRS, HOST_PROPOSING, IS_STABLE, MATCHING, PERSON_PROPOSING, ask_of, markets,
                           many_markets, rank, set_matching, sides_exchanged, spread_markets, stable, told_matching)


def best_for_persons(persons, found):
    """For each person the best host in any of these matchings."""
    return [min([a[i] for a in found], key=lambda h: rank(row, h)) for i, row in enumerate(persons)]


def worst_for_persons(persons, found):
    """For each person the worst host in any of these matchings."""
    return [max([a[i] for a in found], key=lambda h: rank(row, h)) for i, row in enumerate(persons)]


class Proposing(unittest.TestCase):
    def test_everybody_asks_first_the_one_who_likes_them_least(self):
        persons = [[0, 1, 2, 3], [1, 2, 3, 0], [2, 3, 0, 1], [3, 0, 1, 2]]
        hosts = [[1, 2, 3, 0], [2, 3, 0, 1], [3, 0, 1, 2], [0, 1, 2, 3]]
        told = ask_of(persons, hosts, [PERSON_PROPOSING, IS_STABLE, HOST_PROPOSING, IS_STABLE])
        self.assertEqual(told, [[4, 0, 1, 2, 3], [1], [4, 3, 0, 1, 2], [1]])

    def test_a_partner_is_left_for_a_better_one(self):
        # Person 0 is asked away by 1, who is asked away by 2; so 0 comes to host 1, and 1 to host 2.
        persons, hosts = [[0, 1], [0, 1, 2], [0]], [[2, 1, 0], [0, 1], [1]]
        told = ask_of(persons, hosts, [PERSON_PROPOSING, MATCHING])
        self.assertEqual(told, [[3, 1, 2, 0], [3, 1, 2, 0]])

    def test_somebody_in_one_list_only_is_passed_over(self):
        persons, hosts = [[0, 1], [0]], [[1], [0]]
        told = ask_of(persons, hosts, [PERSON_PROPOSING, HOST_PROPOSING])
        self.assertEqual(told, [[2, 1, 0], [2, 1, 0]])
        persons, hosts = [[1], [0]], [[0, 1], [0]]
        told = ask_of(persons, hosts, [PERSON_PROPOSING, HOST_PROPOSING])
        self.assertEqual(told, [[2, 1, 0], [2, 1, 0]])

    def test_sides_of_different_size(self):
        told = ask_of([[2, 0, 3, 1]], [[0], [0], [], [0]], [PERSON_PROPOSING, HOST_PROPOSING])
        self.assertEqual(told, [[1, 0], [1, 0]])
        told = ask_of([[0], [0], [], [0]], [[2, 3, 1, 0]], [PERSON_PROPOSING, HOST_PROPOSING])
        self.assertEqual(told, [[1, -1, -1, -1, 0], [1, -1, -1, -1, 0]])

    def test_the_current_matching_is_replaced_and_does_not_matter(self):
        persons, hosts = [[0, 1], [1, 0]], [[1, 0], [0, 1]]
        for first in ([0, 1], [1, 0], [0, -1], [-1, 0], [-1, -1]):
            calls = [set_matching(first), PERSON_PROPOSING, MATCHING, set_matching(first), HOST_PROPOSING, MATCHING]
            told = ask_of(persons, hosts, calls)
            self.assertEqual(told[1:3], [[2, 0, 1]] * 2)
            self.assertEqual(told[4:6], [[2, 1, 0]] * 2)

    def test_many_markets(self):
        apart = 0
        for persons, hosts in many_markets():
            calls = [PERSON_PROPOSING, MATCHING, IS_STABLE, BLOCKING_PAIRS,
                     HOST_PROPOSING, MATCHING, IS_STABLE, BLOCKING_PAIRS]
            told = ask_of(persons, hosts, calls)
            found = stable(persons, hosts)
            best = told_matching(best_for_persons(persons, found))
            worst = told_matching(worst_for_persons(persons, found))
            self.assertEqual(told[:4], [best, best, [1], [0]], (persons, hosts))
            self.assertEqual(told[4:], [worst, worst, [1], [0]], (persons, hosts))
            apart += best != worst
        self.assertGreater(apart, 100)

    def test_host_proposing_exchanges_the_sides(self):
        some = list(markets(2, 2)) + list(spread_markets(3, 4, 100, 2)) + list(spread_markets(4, 2, 100, 2))
        for persons, hosts in some + list(spread_markets(4, 4, 100, 4)):
            here = ask_of(persons, hosts, [HOST_PROPOSING])[0]
            there = ask_of(hosts, persons, [PERSON_PROPOSING])[0]
            self.assertEqual(here, [there[0]] + sides_exchanged(there[1:], len(persons)), (persons, hosts))


if __name__ == "__main__":
    unittest.main()
