"""How calls are handed in and answers given back."""

import contextlib
import io
import unittest

from tests.support import (BLOCKING_PAIRS, COUNT_MATCHINGS, DESCRIBE, HOST_PROPOSING, IS_POPULAR, IS_STABLE, MATCHING,
                           NOT_THERE, OUT_OF_RANGE, PERSON_PROPOSING, STABLE_MATCHINGS, SWAP_SIDES,
                           USE_LARGEST_POPULAR, answers, ask, compare, create, popular_matching,
                           set_host_preferences, set_matching, set_person_preferences)

REQUEST = [
    create(2, 3), set_person_preferences(0, [2, 0]), set_person_preferences(1, [2]),
    set_host_preferences(0, [0]), set_host_preferences(2, [0, 1]), set_host_preferences(1, []),
    MATCHING, PERSON_PROPOSING, IS_STABLE, BLOCKING_PAIRS, set_matching([0, 2]), IS_STABLE, BLOCKING_PAIRS,
    HOST_PROPOSING, set_matching([0, 0]), create(0, 9), set_person_preferences(7, [7]), MATCHING,
    compare([0, 2]), compare([2]), IS_POPULAR, COUNT_MATCHINGS, STABLE_MATCHINGS, popular_matching(1),
    popular_matching(2), USE_LARGEST_POPULAR, SWAP_SIDES, MATCHING, DESCRIBE,
]
TOLD = [
    1, 0, 1, 2, 1, 1, 1, 1, 1, 2, 1, 0,
    3, 0, -1, -1, 3, 1, 2, -1, 1, 1, 1, 0, 1, 2, 1, 0, 3, 1, 0, 2,
    3, 1, 2, -1, 1, -22, 1, -22, 1, -2, 3, 1, 2, -1,
    2, 2, 2, 1, -22, 1, 1, 3, 5, 2, 1, 3, 1, 2, -1, 3, 1, 2, -1,
    1, -2, 3, 2, 0, 2, 1, 3, 4, 2, 0, -1, 1, 13, 3, 2, 1, 0, 0, 2, 0, 1, 2, 2, 0, 1, 2,
]


def flat(calls):
    return [number for call in calls for number in call]


class Unchanging(list):
    """A list that refuses to be changed, even for a while."""

    def refuse(self, *given, **named):
        raise AssertionError("what was handed in was changed")

    __setitem__ = __delitem__ = __iadd__ = __imul__ = refuse
    append = extend = insert = pop = remove = clear = reverse = sort = refuse


class Interface(unittest.TestCase):
    def test_each_call_tells_how_many_numbers_and_these(self):
        self.assertEqual(answers(flat(REQUEST)), TOLD)

    def test_the_answer_is_a_list_of_whole_numbers(self):
        told = answers(flat(REQUEST))
        self.assertIs(type(told), list)
        self.assertEqual({type(number) for number in told}, {int})

    def test_what_is_handed_in_stays_as_it_was(self):
        given = flat(REQUEST)
        kept = list(given)
        answers(given)
        self.assertEqual(given, kept)
        self.assertEqual(answers(Unchanging(kept)), TOLD)

    def test_what_is_given_back_is_a_new_list(self):
        given = flat(REQUEST)
        first = answers(given)
        first.clear()
        self.assertEqual(answers(given), TOLD)

    def test_each_request_begins_without_an_instance(self):
        self.assertEqual(answers(flat(REQUEST)), TOLD)
        self.assertEqual(answers([4]), [1, -11])
        self.assertEqual(answers(flat(REQUEST)), TOLD)
        for call in (MATCHING, PERSON_PROPOSING, HOST_PROPOSING, IS_STABLE, BLOCKING_PAIRS, set_matching([-1, -1]),
                     set_person_preferences(0, []), set_host_preferences(0, []), compare([-1, -1]), IS_POPULAR,
                     COUNT_MATCHINGS, STABLE_MATCHINGS, popular_matching(0), USE_LARGEST_POPULAR, SWAP_SIDES, DESCRIBE):
            self.assertEqual(answers(call), [1, -11])
            self.assertEqual(answers(flat(REQUEST)), TOLD)

    def test_nothing_is_printed(self):
        with contextlib.redirect_stdout(io.StringIO()) as out, contextlib.redirect_stderr(io.StringIO()) as errors:
            answers(flat(REQUEST))
        self.assertEqual((out.getvalue(), errors.getvalue()), ("", ""))

    def test_rows_that_look_like_calls(self):
        calls = [create(4, 4), set_person_preferences(0, [0, 3, 2, 1]), set_host_preferences(0, []),
                 set_person_preferences(3, [2]), set_matching([0, 1, 2, 3]), MATCHING]
        self.assertEqual(ask(calls), [[0], [4], [0], [1], OUT_OF_RANGE, [0, -1, -1, -1, -1]])

    def test_rows_and_numbers_that_look_like_the_calls_that_list(self):
        calls = [create(1, 1), compare([16, 14, 15]), popular_matching(16), compare([]), popular_matching(14),
                 compare([9] * 70), compare([13]), popular_matching(0), DESCRIBE]
        told = [[0], OUT_OF_RANGE, NOT_THERE, OUT_OF_RANGE, NOT_THERE, OUT_OF_RANGE, OUT_OF_RANGE, [0, -1],
                [1, 1, 0, 0]]
        self.assertEqual(ask(calls), told)

    def test_the_longest_request(self):
        calls = [create(4, 4)] + [set_person_preferences(0, [0] * 70)] * 59
        self.assertEqual(ask(calls), [[0]] + [OUT_OF_RANGE] * 59)
        calls = [set_host_preferences(3, range(70))] * 60
        self.assertEqual(len(flat(calls)), 4380)
        self.assertEqual(ask(calls), [[-11]] * 60)
        self.assertEqual(ask([create(4, 4)] + [compare([-1] * 70)] * 59), [[0]] + [OUT_OF_RANGE] * 59)


if __name__ == "__main__":
    unittest.main()
