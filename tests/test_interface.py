import unittest

from lettersexchanged.desk import answers
from tests.helper import BIGGEST, FORTY, flat, last, text, words

CALLS = [("begins", 6), ("word", [1, 2]), ("word", [3, 4]), ("word", [1, 2]), ("word", []), text([5, 4]),
         ("readings",), ("hint", 5, 3), ("sure",), ("text", [9]), ("hint", 0, 0)]

BEFORE = [("begins", 6), ("word", [1, 2]), ("word", [3, 4]), ("word", [5]), text([5, 4], [0])]
OTHERS = [("may", 5), ("may", 1), ("tells", 1), ("tells", 2), ("need", 1), ("nearest",), ("shapes", 0), ("shapes", 2)]


class Interface(unittest.TestCase):

    def test_calls_and_answers_number_by_number(self):
        calls = [0, 6, 1, 2, 1, 2, 1, 2, 3, 4, 1, 2, 1, 2, 1, 0, 2, 3, 2, 5, 4, 4, 3, 5, 3, 5, 2, 1, 9, 3, 0, 0]
        self.assertEqual(flat(CALLS), calls)
        given = [1, 0, 1, 0, 1, 1, 1, -4, 1, -1, 1, 2, 3, 2, 2, 1, 1, 0, 3, 0, 4, 3, 1, -1, 1, -2]
        self.assertEqual(answers(calls), given)

    def test_the_calls_from_6_on_number_by_number(self):
        calls = [0, 6, 1, 2, 1, 2, 1, 2, 3, 4, 1, 1, 5, 2, 5, 2, 5, 4, 1, 0,
                 6, 5, 6, 1, 7, 1, 7, 2, 8, 1, 9, 10, 0, 10, 2]
        self.assertEqual(flat(BEFORE + OTHERS), calls)
        given = [1, 0, 1, 0, 1, 1, 1, 2, 1, 3,
                 3, 2, 1, 3, 1, -2, 3, 0, 1, 2, 1, -8, 2, 1, 4, 2, 0, 1, 3, 2, 0, 1, 1, -2]
        self.assertEqual(answers(calls), given)

    def test_a_call_alone(self):
        self.assertEqual(answers([0, 2]), [1, 0])
        self.assertEqual(answers([1, 0]), [1, -1])
        self.assertEqual(answers([2, 0]), [1, -1])
        self.assertEqual(answers([3, 4, 5]), [1, -3])
        self.assertEqual(answers([4]), [1, -3])
        self.assertEqual(answers([5]), [1, -3])
        self.assertEqual(answers([6, 7]), [1, -3])
        self.assertEqual(answers([7, 9]), [1, -3])
        self.assertEqual(answers([8, BIGGEST]), [1, -3])
        self.assertEqual(answers([9]), [1, -3])
        self.assertEqual(answers([10, 4]), [1, -3])

    def test_biggest_numbers(self):
        for name, number in (("may", -2), ("tells", -8), ("need", -8), ("shapes", -2)):
            self.assertEqual(last(*BEFORE, (name, BIGGEST)), [number], name)

    def test_refused_rows_are_passed_over_whole(self):
        self.assertEqual(answers([1, 40] + [4] * 40 + [2, 100] + [5] * 100 + [1, 1, 25]), [1, -1, 1, -1, 1, 0])

    def test_sixty_calls(self):
        self.assertEqual(answers([0, 5] * 60), [1, 0] * 60)

    def test_gives_back_a_list_of_whole_numbers(self):
        given = answers(flat(CALLS))
        self.assertIs(type(given), list)
        self.assertEqual({type(number) for number in given}, {int})

    def test_what_is_handed_in_stays_as_it_was(self):
        for calls in (CALLS, words(*FORTY) + [text([0, 1]), ("hint", 0, 1), ("readings",), ("sure",)],
                      BEFORE + OTHERS, BEFORE + [("hint", 5, 3)] + OTHERS):
            handed = flat(calls)
            before = list(handed)
            given = answers(handed)
            self.assertEqual(handed, before)
            self.assertIsNot(given, handed)

    def test_nothing_is_kept_from_one_run_to_the_next(self):
        first = answers(flat(CALLS))
        self.assertEqual(answers(flat(CALLS)), first)
        answers(flat([("begins", 3), ("word", [1]), text([0]), ("hint", 0, 1)]))
        self.assertEqual(answers(flat([("readings",), ("word", [25]), ("word", [1]), text([0]), ("readings",)])),
                         [1, -3, 1, 0, 1, 1, 1, 1, 2, 2, 25])
        self.assertEqual(answers(flat(CALLS)), first)

    def test_nothing_of_the_calls_from_6_on_is_kept(self):
        first = answers(flat(BEFORE + OTHERS))
        self.assertEqual(answers(flat(BEFORE + OTHERS)), first)
        hinted = answers(flat(BEFORE + [("hint", 5, 3)] + OTHERS))
        self.assertNotEqual(hinted[-len(first):], first)
        self.assertEqual(answers(flat(BEFORE + OTHERS)), first)
        self.assertEqual(answers(flat(OTHERS)), [1, -3] * len(OTHERS))
        self.assertEqual(answers(flat(BEFORE + [("hint", 5, 3)] + OTHERS)), hinted)

    def test_the_calls_from_6_on_change_nothing(self):
        behind = [("readings",), ("sure",), ("hint", 5, 3), ("hint", 4, 3), ("shapes", 0), ("word", [5]), ("word", [6])]
        plain = answers(flat(BEFORE + behind))
        beginning = answers(flat(BEFORE))
        for call in OTHERS:
            asked = answers(flat(BEFORE + [call] + behind))
            self.assertEqual(asked[:len(beginning)], beginning, call)
            self.assertEqual(asked[len(asked) - len(plain) + len(beginning):], plain[len(beginning):], call)

    def test_what_was_given_back_is_not_used_again(self):
        first = answers(flat(CALLS))
        kept = list(first)
        first.clear()
        self.assertEqual(answers(flat(CALLS)), kept)
