import unittest

from tests.helper import BIGGEST, last, run, text, words


class Hint(unittest.TestCase):

    def test_answers_0_and_holds(self):
        got = run(*words([5, 6], [7, 8]), text([0, 1]), ("hint", 1, 8), ("readings",), ("sure",))
        self.assertEqual(got[3:], [[0], [1, 7, 8], [0, 7, 8]])

    def test_several_hold_together(self):
        rows = words([5, 6], [5, 7], [8, 7])
        got = run(*rows, text([0, 1]), ("hint", 0, 5), ("hint", 1, 7), ("readings",))
        self.assertEqual(got[4:], [[0], [0], [1, 5, 7]])

    def test_there_is_no_text(self):
        self.assertEqual(run(("hint", 0, 0)), [[-3]])

    def test_no_text_goes_before_all_else(self):
        self.assertEqual(run(("hint", 26, 0), ("hint", 0, 26), ("hint", 26, 26)), [[-3], [-3], [-3]])

    def test_not_a_letter_of_the_text(self):
        for letter in (1, 25, 26, BIGGEST):
            self.assertEqual(last(text([0, 2]), ("hint", letter, 5)), [-2], letter)

    def test_letter_of_any_word_of_the_text(self):
        self.assertEqual(run(text([3], [9, 4]), ("hint", 4, 1), ("hint", 3, 2))[1:], [[0], [0]])

    def test_what_it_stands_for_is_below_n(self):
        got = run(("begins", 5), text([0, 1]), ("hint", 0, 5), ("hint", 0, BIGGEST), ("hint", 0, 4))
        self.assertEqual(got[2:], [[-1], [-1], [0]])

    def test_not_in_the_text_goes_before_not_below_n(self):
        self.assertEqual(last(("begins", 5), text([0]), ("hint", 1, 5)), [-2])

    def test_letter_has_a_hint(self):
        got = run(text([0, 1]), ("hint", 0, 5), ("hint", 0, 6), ("hint", 0, 5))
        self.assertEqual(got[1:], [[0], [-4], [-4]])

    def test_another_one_stands_for_this(self):
        got = run(text([0, 1, 2]), ("hint", 0, 5), ("hint", 1, 5), ("hint", 1, 6), ("hint", 2, 6))
        self.assertEqual(got[1:], [[0], [-4], [0], [-4]])

    def test_a_letter_may_stand_for_one_that_has_a_hint(self):
        self.assertEqual(run(text([0, 1]), ("hint", 0, 1), ("hint", 1, 0))[1:], [[0], [0]])

    def test_a_letter_may_stand_for_itself(self):
        self.assertEqual(run(("word", [0]), text([0]), ("hint", 0, 0), ("readings",))[2:], [[0], [1, 0]])

    def test_told_wrong_goes_before_has_a_hint(self):
        got = run(("begins", 5), text([0, 1]), ("hint", 0, 4), ("hint", 0, 5), ("hint", 2, 4))
        self.assertEqual(got[2:], [[0], [-1], [-2]])

    def test_refused_leaves_the_hints_as_they_were(self):
        got = run(*words([5, 6], [6, 5], [7, 6]), text([0, 1]), ("hint", 0, 26), ("hint", 2, 6), ("readings",),
                  ("hint", 0, 6), ("hint", 0, 7), ("hint", 1, 6), ("readings",), ("hint", 1, 5))
        self.assertEqual(got[4:], [[-1], [-2], [3, 5, 6], [0], [-4], [-4], [1, 6, 5], [0]])

    def test_hint_that_nothing_fits(self):
        got = run(("word", [5]), text([0]), ("hint", 0, 6), ("readings",), ("sure",))
        self.assertEqual(got[2:], [[0], [0], [-6]])
