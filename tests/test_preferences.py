"""set_person_preferences and set_host_preferences."""

import unittest

from tests.support import (HIGHEST, HOST_PROPOSING, LOWEST, MATCHING, NOT_THERE, OUT_OF_RANGE, PERSON_PROPOSING,
                           ask, build, create, preference_lists, set_host_preferences, set_matching,
                           set_person_preferences, views)

PERSONS = [[1, 0], [0, 1, 2]]
HOSTS = [[1, 0], [0, 1], [1]]


def numbers_outside(size):
    return (LOWEST, -2, -1, size, size + 1, 4, 5, HIGHEST)


class Preferences(unittest.TestCase):
    def check_refused(self, call, code):
        """The call is refused, and the instance is what it was before."""
        first = build(PERSONS, HOSTS) + [set_matching([1, 2])]
        for view in views(PERSONS, HOSTS):
            told = ask(first + [call] + view)
            self.assertEqual(told.pop(len(first)), code, call)
            self.assertEqual(told, ask(first + view), call)

    def test_each_list_tells_its_length(self):
        for size in range(1, 5):
            for row in preference_lists(size):
                calls = [create(1, size), set_person_preferences(0, row)]
                self.assertEqual(ask(calls), [[0], [len(row)]])
                calls = [create(size, 1), set_host_preferences(0, row)]
                self.assertEqual(ask(calls), [[0], [len(row)]])

    def test_the_first_is_the_most_preferred(self):
        for row in preference_lists(4, 1):
            calls = build([row], [[0]] * 4) + [PERSON_PROPOSING, HOST_PROPOSING]
            self.assertEqual(ask(calls)[-2:], [[1, row[0]]] * 2)
            have = [0 if person == row[0] else -1 for person in range(4)]
            calls = build([[0]] * 4, [row]) + [PERSON_PROPOSING, HOST_PROPOSING]
            self.assertEqual(ask(calls)[-2:], [[1] + have] * 2)

    def test_a_list_is_replaced(self):
        first = build([[0, 1], [0, 1]], [[0, 1], [1, 0]])
        told = ask(first + [set_person_preferences(0, [1]), set_matching([0, 1]), set_matching([1, 0])])
        self.assertEqual(told[-3:], [[1], OUT_OF_RANGE, [2]])
        told = ask(first + [set_host_preferences(1, [0]), set_matching([0, 1]), set_matching([1, 0])])
        self.assertEqual(told[-3:], [[1], OUT_OF_RANGE, [2]])

    def test_a_list_can_be_emptied(self):
        first = build([[0]], [[0]])
        for emptied in (set_person_preferences(0, []), set_host_preferences(0, [])):
            told = ask(first + [emptied, PERSON_PROPOSING, HOST_PROPOSING, set_matching([0])])
            self.assertEqual(told[-4:], [[0], [0, -1], [0, -1], OUT_OF_RANGE])

    def test_one_member_alone_is_meant(self):
        persons, hosts = [[0, 1], [0, 1], [0, 1]], [[0, 1, 2], [2, 1, 0]]
        for i in range(3):
            changed = [[1] if place == i else row for place, row in enumerate(persons)]
            for view in views(persons, hosts):
                told = ask(build(persons, hosts) + [set_person_preferences(i, [1])] + view)
                self.assertEqual(told[-len(view):], ask(build(changed, hosts) + view)[-len(view):])
        for h in range(2):
            changed = [[2, 0] if place == h else row for place, row in enumerate(hosts)]
            for view in views(persons, hosts):
                told = ask(build(persons, hosts) + [set_host_preferences(h, [2, 0])] + view)
                self.assertEqual(told[-len(view):], ask(build(persons, changed) + view)[-len(view):])

    def test_nobody_has_a_partner_afterwards(self):
        first = build(PERSONS, HOSTS) + [set_matching([1, 2]), MATCHING]
        for call in (set_person_preferences(0, PERSONS[0]), set_person_preferences(1, []),
                     set_host_preferences(0, HOSTS[0]), set_host_preferences(2, [])):
            self.assertEqual(ask(first + [call, MATCHING])[-3::2], [[2, 1, 2], [0, -1, -1]], call)

    def test_a_person_who_is_not_there(self):
        for i in numbers_outside(2):
            for hosts in ([], [0], [1, 0], [0, 1, 2]):
                self.check_refused(set_person_preferences(i, hosts), NOT_THERE)

    def test_a_host_who_is_not_there(self):
        for h in numbers_outside(3):
            for persons in ([], [0], [1, 0]):
                self.check_refused(set_host_preferences(h, persons), NOT_THERE)

    def test_a_number_that_is_not_a_host(self):
        for outside in numbers_outside(3):
            for hosts in ([outside], [0, outside], [outside, 0], [0, 1, 2, outside]):
                self.check_refused(set_person_preferences(0, hosts), OUT_OF_RANGE)

    def test_a_number_that_is_not_a_person(self):
        for outside in numbers_outside(2):
            for persons in ([outside], [0, outside], [outside, 0], [0, 1, outside]):
                self.check_refused(set_host_preferences(1, persons), OUT_OF_RANGE)

    def test_a_number_twice(self):
        for row in ([0, 0], [1, 1], [0, 1, 0], [0, 1, 1], [1, 1, 0]):
            self.check_refused(set_person_preferences(1, row), OUT_OF_RANGE)
            self.check_refused(set_host_preferences(2, row), OUT_OF_RANGE)

    def test_lists_of_seventy(self):
        for row in ([0] * 70, list(range(70)), [-1] * 70, [HIGHEST] * 70, [0, 1] * 35, [1] + [LOWEST] * 69):
            self.check_refused(set_person_preferences(0, row), OUT_OF_RANGE)
            self.check_refused(set_host_preferences(0, row), OUT_OF_RANGE)
            self.check_refused(set_person_preferences(2, row), NOT_THERE)
            self.check_refused(set_host_preferences(3, row), NOT_THERE)

    def test_who_is_not_there_is_told_ahead_of_a_wrong_list(self):
        for row in ([-1], [9], [0, 0], [LOWEST], [HIGHEST]):
            for outside in (LOWEST, -1, 4, HIGHEST):
                self.check_refused(set_person_preferences(outside, row), NOT_THERE)
                self.check_refused(set_host_preferences(outside, row), NOT_THERE)


if __name__ == "__main__":
    unittest.main()
