"""The interface: how calls are read, how answers stand, and that nothing is kept."""

import unittest

from knobplans.desk import answers
from tests.helper import EXAMPLE, write_calls

CALLS = [
    0, 3, 8, 5, 0, 1, 1, 3, 0, 6, 2, 1, 0, 1, 2, 1,
    1, 2, 0, 5,
    1, 3, 0, 2, 4,
    1, 2, 0, 3,
    3, 0, 0, 0, 1, 6, 0,
    3, 1, 0, 0, 1, 3, 2,
    3, 1, 1, 0, 1, 3, 1,
    2, 2, 0, 0, 2, 4,
    5, 3, 0, 1, -1,
    4, 0, 1, 1,
    4, 0, 2, 1,
    6,
]
GIVEN = [
    1, 0,
    2, 0, 0,
    2, 0, 1,
    2, 0, 2,
    1, 0,
    1, 0,
    1, 0,
    1, 0,
    16, 0, 3, 8, 1, 0, 1, 1, 6, 1, 2, 2, 1, 0, 1, 2, 1,
    1, 0,
    1, -1,
    41, 0, 3,
    2, 0, 0, 1, 0, 1, 6, 0, 1, 0, 0,
    3, 0, 0, 1, 0, 1, 3, 2, 2, 0, 1, 0, 1, 3, 1, 4, 0, 0,
    2, 0, 1, 0, 2, 4, 0, 3, 0, 0,
]

# The calls that make the example, and their answers.
BEGINNING = len(write_calls(EXAMPLE))
GIVEN_BEGINNING = 19
QUESTIONS = [
    7, 3, 0, 1, 0,
    8, 3, 0, 1, -1,
    8, 3, 0, 1, 0,
    9, 3, 0, 0, 0,
    9, 3, 1, 1, 0,
    10, 3, -1, -1, -1,
    10, 3, -1, 0, -1,
    11, 3, -1, -1, -1, 3, 0, 1, 1, 3, -1, 0, -1,
    12, 0, 0,
    12, 2, 2,
    13,
]
ANSWERS = [
    2, 0, 2,
    2, 0, 1,
    2, 0, 0,
    4, 0, -1, 0, -1,
    1, -2,
    13, 0, 1, 5, 0, 1, 1, 2, -1, 0, -1, 0, -1, 0,
    6, 0, 0, 1, -1, 0, -1,
    6, 0, 0, 3, 0, 1, 0,
    3, 0, 1, 0,
    1, -1,
    7, 0, 3, 8, 1, 2, 3, 12,
]


class Interface(unittest.TestCase):
    def test_the_calls_7_to_13(self):
        self.assertEqual(answers(CALLS[:BEGINNING] + QUESTIONS), GIVEN[:GIVEN_BEGINNING] + ANSWERS)

    def test_check_has_three_rows(self):
        self.assertEqual(write_calls([("check", [-1, -1, -1], [], [])]), [11, 3, -1, -1, -1, 0, 0])
        self.assertEqual(answers([11, 0, 0, 0, 6]), [2, 0, 1, 2, 0, 0])
        self.assertEqual(answers([11, 1, 6, 0, 0, 6]), [1, -1, 2, 0, 0])
        self.assertEqual(answers([11, 0, 2, 6, 6, 0, 6]), [1, -1, 2, 0, 0])
        self.assertEqual(answers([11, 0, 0, 3, 6, 6, 6, 6]), [1, -1, 2, 0, 0])
        self.assertEqual(answers([11, 1, 6, 2, 6, 6, 3, 6, 6, 6, 6]), [1, -1, 2, 0, 0])

    def test_longest_lists(self):
        self.assertEqual(answers([11, 200] + [6] * 200 + [200] + [6] * 200 + [400] + [6] * 400 + [13]),
                         [1, -1, 7, 0, 1, 1, 0, 0, 0, 1])

    def test_answers_of_one_number(self):
        self.assertEqual(answers([9, 0, 8, 0, 12, 0, 0, 7, 1, 5, 10, 1, 5]), [1, -2, 2, 0, 1] + [1, -1] * 3)
        # The conflict of a plan without knobs has no settings.
        self.assertEqual(answers([0, 1, 1, 0, 3, 0, 0, -1, 9, 0, 10, 0, 11, 0, 0, 0]),
                         [1, 0, 1, 0, 3, 0, 0, 1, 3, 0, 0, 1])

    def test_several_calls_in_one_list(self):
        self.assertEqual(answers(list(CALLS)), GIVEN)

    def test_calls_are_written_as_the_helper_writes_them(self):
        self.assertEqual(write_calls(EXAMPLE), CALLS[:len(write_calls(EXAMPLE))])

    def test_one_call(self):
        self.assertEqual(answers([6]), [2, 0, 0])
        self.assertEqual(answers([5, 0]), [5, 0, 1, 1, 0, 0])
        self.assertEqual(answers([5, 1, 0]), [1, -1])
        self.assertEqual(answers([1, 0]), [1, -1])
        self.assertEqual(answers([0, 1, 1, 0, 0]), [1, 0])

    def test_rows_of_no_numbers_stand_between_others(self):
        self.assertEqual(
            answers([0, 2, 5, 0, 3, 0, 1, -7, 5, 0, 0, 2, 6, 5, 0, 1, 4, 5, 6, 0, 5, 0]),
            [1, 0, 8, 0, 2, 5, 0, 1, 0, 1, -7, 1, 0, 10, 0, 2, 6, 1, 0, 1, 4, 5, 6, 0])

    def test_refused_call_is_read_to_its_end(self):
        # The numbers of the refused row look like calls.
        self.assertEqual(answers([1, 6, 6, 6, 6, 6, 6, 6, 6]), [1, -1, 2, 0, 0])
        self.assertEqual(answers([0, 99, 6, 3, 6, 6, 6, 2, 6, 6, 6]), [1, -1, 2, 0, 0])
        self.assertEqual(answers([2, 6, 6, 6, 6, 6, 3, 6, 6, 6, 6, 6, 6, 4, 6, 6, 6, 6]), [1, -1] * 3 + [2, 0, 0])

    def test_sixty_calls(self):
        self.assertEqual(answers([6] * 60), [2, 0, 0] * 60)

    def test_list_handed_in_is_not_changed(self):
        for given in (CALLS, CALLS[:BEGINNING] + QUESTIONS):
            calls = list(given)
            answers(calls)
            self.assertEqual(calls, given)

    def test_list_given_back_is_a_new_one_of_whole_numbers(self):
        given = answers(CALLS)
        self.assertIs(type(given), list)
        self.assertEqual({type(number) for number in given + answers(CALLS[:BEGINNING] + QUESTIONS)}, {int})
        given.clear()
        self.assertEqual(answers(CALLS), GIVEN)

    def test_nothing_is_kept(self):
        self.assertEqual(answers([6, 5, 0]), [2, 0, 0, 5, 0, 1, 1, 0, 0])
        for calls in (CALLS, CALLS[:16], [1, 1, 7, 4, 0, 0, 9], CALLS[:BEGINNING] + QUESTIONS):
            first = answers(list(calls))
            self.assertEqual(answers(list(calls)), first)
            self.assertEqual(answers([6, 5, 0]), [2, 0, 0, 5, 0, 1, 1, 0, 0])


if __name__ == "__main__":
    unittest.main()
