import unittest

from tests.helper import BIGGEST, last, run, text, words


class May(unittest.TestCase):

    def test_there_is_no_text(self):
        self.assertEqual(run(("may", 0), ("word", [0]), ("may", 0), ("may", BIGGEST)), [[-3], [0], [-3], [-3]])

    def test_not_a_letter_of_the_text(self):
        for letter in (1, 3, 25, 26, BIGGEST):
            self.assertEqual(last(*words([1, 3]), text([0, 2]), ("may", letter)), [-2], letter)
            self.assertEqual(last(text([0, 2]), ("may", letter)), [-2], letter)

    def test_letters_of_the_text_before_are_gone(self):
        self.assertEqual(run(("word", [7]), text([0]), text([1]), ("may", 0), ("may", 1))[3:], [[-2], [1, 7]])

    def test_each_once_and_rising(self):
        before = words([9, 1], [3, 1], [9, 2], [5, 4]) + [text([0, 6])]
        got = run(*before, ("may", 0), ("may", 6))
        self.assertEqual(got[5:], [[3, 3, 5, 9], [3, 1, 2, 4]])

    def test_one_reading(self):
        got = run(*words([10, 20, 15]), text([9, 2, 5]), ("may", 9), ("may", 2), ("may", 5))
        self.assertEqual(got[2:], [[1, 10], [1, 20], [1, 15]])

    def test_no_reading_is_0_alone(self):
        self.assertEqual(last(text([0]), ("may", 0)), [0])
        self.assertEqual(run(*words([1, 2], [3]), text([0, 0], [4]), ("may", 0), ("may", 4))[3:], [[0], [0]])

    def test_only_what_all_words_allow(self):
        rows = words([1, 2], [3, 4], [4, 5, 5], [6, 7, 7], [4, 8, 8])
        got = run(*rows, text([0, 1], [1, 2, 2]), ("may", 0), ("may", 1), ("may", 2))
        self.assertEqual(got[6:], [[1, 3], [1, 4], [2, 5, 8]])

    def test_letters_below_n_and_letter_0(self):
        got = run(("begins", 3), *words([0], [1], [2]), text([2], [0]), ("may", 2), ("may", 0))
        self.assertEqual(got[5:], [[3, 0, 1, 2], [3, 0, 1, 2]])

    def test_hints_hold(self):
        before = words([1, 2], [1, 3], [4, 2], [5, 6]) + [text([0, 7])]
        got = run(*before, ("may", 0), ("hint", 7, 2), ("may", 0), ("may", 7))
        self.assertEqual(got[5:], [[3, 1, 4, 5], [0], [2, 1, 4], [1, 2]])

    def test_hint_of_another_word_is_not_free(self):
        got = run(*words([3], [4], [5], [4, 4]), text([0], [1, 1]), ("hint", 1, 4), ("may", 0), ("may", 1))
        self.assertEqual(got[6:], [[2, 3, 5], [1, 4]])

    def test_hint_that_nothing_fits(self):
        self.assertEqual(last(("word", [5]), text([0]), ("hint", 0, 6), ("may", 0)), [0])

    def test_asking_changes_nothing(self):
        before = words([1, 2], [3, 4]) + [text([0, 1]), ("hint", 0, 3)]
        got = run(*before, ("may", 0), ("may", 9), ("may", 0), ("readings",), ("hint", 0, 1), ("word", [1, 2]))
        self.assertEqual(got[4:], [[1, 3], [-2], [1, 3], [1, 3, 4], [-4], [-4]])
