"""create, and the calls before it has succeeded."""

import unittest
from itertools import product

from tests.support import (BLOCKING_PAIRS, COUNT_MATCHINGS, DESCRIBE, HIGHEST, HOST_PROPOSING, IS_POPULAR, IS_STABLE,
                           LOWEST, MATCHING, NOT_THERE, NO_INSTANCE, OUT_OF_RANGE, PERSON_PROPOSING,
                           STABLE_MATCHINGS, SWAP_SIDES, USE_LARGEST_POPULAR, ask, build, compare, create,
                           popular_matching, set_host_preferences, set_matching, set_person_preferences,
                           told_market, views)

REFUSED_SIZES = (LOWEST, -5, -1, 0, 5, 6, 70, HIGHEST)
EVERY_OTHER_CALL = [
    set_person_preferences(0, []),
    set_person_preferences(0, [0]),
    set_person_preferences(-1, [9, 9]),
    set_host_preferences(0, []),
    set_host_preferences(0, [0]),
    set_host_preferences(HIGHEST, [-1]),
    set_matching([]),
    set_matching([-1]),
    set_matching([7] * 70),
    MATCHING,
    PERSON_PROPOSING,
    HOST_PROPOSING,
    IS_STABLE,
    BLOCKING_PAIRS,
    compare([]),
    compare([-1]),
    compare([7] * 70),
    IS_POPULAR,
    COUNT_MATCHINGS,
    STABLE_MATCHINGS,
    popular_matching(0),
    popular_matching(-1),
    popular_matching(LOWEST),
    popular_matching(HIGHEST),
    USE_LARGEST_POPULAR,
    SWAP_SIDES,
    DESCRIBE,
]


class Create(unittest.TestCase):
    def test_every_size(self):
        for n, m in product(range(1, 5), repeat=2):
            calls = [create(n, m), MATCHING, IS_STABLE, BLOCKING_PAIRS, PERSON_PROPOSING, HOST_PROPOSING]
            nobody = [0] + [-1] * n
            self.assertEqual(ask(calls), [[0], nobody, [1], [0], nobody, nobody], (n, m))

    def test_there_are_so_many_persons_and_hosts(self):
        for n, m in product(range(1, 5), repeat=2):
            calls = [create(n, m), set_person_preferences(n - 1, range(m)), set_person_preferences(n, []),
                     set_host_preferences(m - 1, range(n)), set_host_preferences(m, []),
                     set_person_preferences(0, [m]), set_host_preferences(0, [n])]
            told = [[0], [m], NOT_THERE, [n], NOT_THERE, OUT_OF_RANGE, OUT_OF_RANGE]
            self.assertEqual(ask(calls), told, (n, m))

    def test_every_size_is_described(self):
        for n, m in product(range(1, 5), repeat=2):
            told = ask([create(n, m), DESCRIBE])
            self.assertEqual(told, [[0], [n, m] + [0] * (n + m)], (n, m))
            self.assertEqual(told[1], told_market([[]] * n, [[]] * m))

    def test_all_lists_are_empty_at_first(self):
        calls = [create(2, 2), set_person_preferences(0, [0, 1]), set_person_preferences(1, [0, 1]),
                 PERSON_PROPOSING, set_matching([0, -1])]
        self.assertEqual(ask(calls)[3:], [[0, -1, -1], OUT_OF_RANGE])
        calls = [create(2, 2), set_host_preferences(0, [0, 1]), set_host_preferences(1, [0, 1]),
                 HOST_PROPOSING, set_matching([0, -1])]
        self.assertEqual(ask(calls)[3:], [[0, -1, -1], OUT_OF_RANGE])

    def test_a_size_out_of_range(self):
        for size in REFUSED_SIZES:
            for call in (create(size, 1), create(1, size), create(size, 4), create(4, size), create(size, size)):
                self.assertEqual(ask([call]), [OUT_OF_RANGE], call)

    def test_a_refused_create_makes_no_instance(self):
        for size in REFUSED_SIZES:
            calls = [create(size, 2), MATCHING, create(2, size), MATCHING]
            self.assertEqual(ask(calls), [OUT_OF_RANGE, NO_INSTANCE] * 2)

    def test_a_refused_create_keeps_the_instance(self):
        persons, hosts = [[0, 1], [0]], [[0, 1], [1, 0]]
        first = build(persons, hosts) + [set_matching([1, 0])]
        for size in REFUSED_SIZES:
            for refused in (create(size, 2), create(2, size), create(size, size)):
                for view in views(persons, hosts):
                    told = ask(first + [refused] + view)
                    self.assertEqual(told.pop(len(first)), OUT_OF_RANGE)
                    self.assertEqual(told, ask(first + view))

    def test_create_replaces_the_instance(self):
        first = build([[0, 1], [1, 0]], [[1, 0], [0, 1]]) + [PERSON_PROPOSING]
        for n, m in product(range(1, 5), repeat=2):
            persons, hosts = [[]] * n, [[]] * m
            for view in views(persons, hosts):
                told = ask(first + [create(n, m)] + view)
                self.assertEqual(told[len(first):], ask([create(n, m)] + view), (n, m))


class BeforeCreate(unittest.TestCase):
    def test_each_call_alone(self):
        for call in EVERY_OTHER_CALL:
            self.assertEqual(ask([call]), [NO_INSTANCE], call)

    def test_one_behind_another(self):
        self.assertEqual(ask(EVERY_OTHER_CALL), [NO_INSTANCE] * len(EVERY_OTHER_CALL))

    def test_each_call_behind_a_create_that_was_refused(self):
        for call in EVERY_OTHER_CALL:
            for refused in (create(0, 1), create(1, 5), create(LOWEST, HIGHEST)):
                self.assertEqual(ask([refused, call]), [OUT_OF_RANGE, NO_INSTANCE], call)
                self.assertEqual(ask([call, refused, call]), [NO_INSTANCE, OUT_OF_RANGE, NO_INSTANCE], call)

    def test_they_leave_nothing_behind(self):
        calls = EVERY_OTHER_CALL + [create(1, 1), DESCRIBE, MATCHING, PERSON_PROPOSING]
        self.assertEqual(ask(calls)[-4:], [[0], [1, 1, 0, 0], [0, -1], [0, -1]])


if __name__ == "__main__":
    unittest.main()
