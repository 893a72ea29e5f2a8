"""Refusals and questions leave the instance as it is."""

import unittest

from tests.support import (BLOCKING_PAIRS, COUNT_MATCHINGS, DESCRIBE, HIGHEST, IS_POPULAR, IS_STABLE, LOWEST, MATCHING,
                           NOT_THERE, OUT_OF_RANGE, STABLE_MATCHINGS, all_matchings, ask, ask_of, build, compare,
                           create, many_markets, popular, popular_matching, set_host_preferences, set_matching,
                           set_person_preferences, told_market, told_matching, views)

QUESTIONS = [MATCHING, IS_STABLE, BLOCKING_PAIRS, IS_POPULAR, COUNT_MATCHINGS, STABLE_MATCHINGS, DESCRIBE]


def refusals(persons, hosts):
    """Calls that this market refuses, and by which code."""
    n, m = len(persons), len(hosts)
    found = [(create(n, 5), OUT_OF_RANGE), (create(0, m), OUT_OF_RANGE), (create(LOWEST, HIGHEST), OUT_OF_RANGE)]
    for nobody in (LOWEST, -1, HIGHEST):
        found += [(set_person_preferences(nobody, [0]), NOT_THERE), (set_person_preferences(0, [nobody]), OUT_OF_RANGE),
                  (set_host_preferences(nobody, [0]), NOT_THERE), (set_host_preferences(0, [nobody]), OUT_OF_RANGE),
                  (popular_matching(nobody), NOT_THERE)]
    found += [(set_person_preferences(n, [0]), NOT_THERE), (set_person_preferences(n - 1, [0, 0]), OUT_OF_RANGE),
              (set_host_preferences(m, [0]), NOT_THERE), (set_host_preferences(m - 1, [0, 0]), OUT_OF_RANGE),
              (popular_matching(len(popular(persons, hosts))), NOT_THERE)]
    for a in ([], [-1] * (n + 1), [m] + [-1] * (n - 1), [-2] * n, [HIGHEST] * 70):
        found += [(set_matching(a), OUT_OF_RANGE), (compare(a), OUT_OF_RANGE)]
    return found


class Unchanged(unittest.TestCase):
    def test_each_refusal_in_many_markets(self):
        for persons, hosts in list(many_markets())[::7]:
            found = all_matchings(persons, hosts)
            a = found[len(found) // 2]
            before = [told_market(persons, hosts), told_matching(a)]
            expected = refusals(persons, hosts)
            for start in range(0, len(expected), 16):
                calls, told = [set_matching(a), DESCRIBE, MATCHING], before[:]
                for call, code in expected[start:start + 16]:
                    calls += [call, DESCRIBE, MATCHING]
                    told += [code] + before
                self.assertEqual(ask(build(persons, hosts) + calls)[-len(told):], told, (persons, hosts))

    def test_each_question_in_many_markets(self):
        for persons, hosts in list(many_markets())[::3]:
            found = all_matchings(persons, hosts)
            for a in found[::len(found) // 3 + 1]:
                before = [told_market(persons, hosts), told_matching(a)]
                calls = [set_matching(a), DESCRIBE, MATCHING]
                asked = QUESTIONS + [compare(found[0]), compare(a), popular_matching(0),
                                     popular_matching(len(popular(persons, hosts)) - 1)]
                for question in asked:
                    calls += [question, DESCRIBE, MATCHING]
                told = ask_of(persons, hosts, calls)[1:]
                for place in range(0, len(told), 3):
                    self.assertEqual(told[place:place + 2], before, (persons, hosts, a))

    def test_each_question_leaves_all_that_can_be_seen(self):
        persons, hosts = [[0, 1], [0]], [[0, 1], [0]]
        first = build(persons, hosts) + [set_matching([1, 0])]
        for question in QUESTIONS + [compare([0, -1]), popular_matching(0), popular_matching(1)]:
            for view in views(persons, hosts):
                told = ask(first + [question] + view)
                self.assertEqual(told[-len(view):], ask(first + view)[-len(view):], question)

    def test_asked_twice_the_same_is_told(self):
        for persons, hosts in list(many_markets())[::20]:
            calls = QUESTIONS + [popular_matching(0), compare([-1] * len(persons))]
            told = ask_of(persons, hosts, calls * 2)
            self.assertEqual(told[:len(calls)], told[len(calls):], (persons, hosts))


if __name__ == "__main__":
    unittest.main()
