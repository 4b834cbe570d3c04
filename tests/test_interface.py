import unittest

from lettersexchanged.desk import answers
from tests.helper import FORTY, flat, text, words

CALLS = [("begins", 6), ("word", [1, 2]), ("word", [3, 4]), ("word", [1, 2]), ("word", []), text([5, 4]),
         ("readings",), ("hint", 5, 3), ("sure",), ("text", [9]), ("hint", 0, 0)]


class Interface(unittest.TestCase):

    def test_calls_and_answers_number_by_number(self):
        calls = [0, 6, 1, 2, 1, 2, 1, 2, 3, 4, 1, 2, 1, 2, 1, 0, 2, 3, 2, 5, 4, 4, 3, 5, 3, 5, 2, 1, 9, 3, 0, 0]
        self.assertEqual(flat(CALLS), calls)
        given = [1, 0, 1, 0, 1, 1, 1, -4, 1, -1, 1, 2, 3, 2, 2, 1, 1, 0, 3, 0, 4, 3, 1, -1, 1, -2]
        self.assertEqual(answers(calls), given)

    def test_a_call_alone(self):
        self.assertEqual(answers([0, 2]), [1, 0])
        self.assertEqual(answers([1, 0]), [1, -1])
        self.assertEqual(answers([2, 0]), [1, -1])
        self.assertEqual(answers([3, 4, 5]), [1, -3])
        self.assertEqual(answers([4]), [1, -3])
        self.assertEqual(answers([5]), [1, -3])

    def test_refused_rows_are_passed_over_whole(self):
        self.assertEqual(answers([1, 40] + [4] * 40 + [2, 100] + [5] * 100 + [1, 1, 25]), [1, -1, 1, -1, 1, 0])

    def test_sixty_calls(self):
        self.assertEqual(answers([0, 5] * 60), [1, 0] * 60)

    def test_gives_back_a_list_of_whole_numbers(self):
        given = answers(flat(CALLS))
        self.assertIs(type(given), list)
        self.assertEqual({type(number) for number in given}, {int})

    def test_what_is_handed_in_stays_as_it_was(self):
        for calls in (CALLS, words(*FORTY) + [text([0, 1]), ("hint", 0, 1), ("readings",), ("sure",)]):
            handed = flat(calls)
            before = list(handed)
            given = answers(handed)
            self.assertEqual(handed, before)
            self.assertIsNot(given, handed)

    def test_nothing_is_kept_from_one_run_to_the_next(self):
        first = answers(flat(CALLS))
        self.assertEqual(answers(flat(CALLS)), first)
        answers(flat([("begins", 3), ("word", [1]), text([0]), ("hint", 0, 1)]))
        self.assertEqual(answers(flat([("readings",), ("word", [25]), ("word", [1]), text([0]), ("readings",)])),
                         [1, -3, 1, 0, 1, 1, 1, 1, 2, 2, 25])
        self.assertEqual(answers(flat(CALLS)), first)

    def test_what_was_given_back_is_not_used_again(self):
        first = answers(flat(CALLS))
        kept = list(first)
        first.clear()
        self.assertEqual(answers(flat(CALLS)), kept)
