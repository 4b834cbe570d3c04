import unittest

from tests.helper import BIGGEST, FORTY, last, run, text, words


class Word(unittest.TestCase):

    def test_answers_its_number(self):
        self.assertEqual(run(*words([4], [4, 4], [1, 2, 3])), [[0], [1], [2]])

    def test_how_many_letters(self):
        self.assertEqual(run(*words([], [3], [3] * 8, [3] * 9, [3] * 40)), [[-1], [0], [1], [-1], [-1]])

    def test_letters_below_n(self):
        got = run(("begins", 5), *words([4], [5], [0, 5], [5, 0], [0, 4], [BIGGEST]))
        self.assertEqual(got, [[0], [0], [-1], [-1], [-1], [1], [-1]])

    def test_in_the_list_already(self):
        self.assertEqual(run(*words([1, 2], [2, 1], [1, 2], [1], [2, 1])), [[0], [1], [-4], [2], [-4]])

    def test_the_40th_and_the_41st(self):
        got = run(*words(*FORTY), ("word", [9]), ("word", [8]))
        self.assertEqual(got, [[k] for k in range(40)] + [[-5], [-5]])

    def test_in_a_full_list_already(self):
        for row in (FORTY[0], FORTY[39]):
            self.assertEqual(last(*words(*FORTY), ("word", row)), [-4])

    def test_told_wrong_goes_before_a_full_list(self):
        for row in ([], [0] * 9, [26]):
            self.assertEqual(last(*words(*FORTY), ("word", row)), [-1])

    def test_a_full_list_can_begin_anew(self):
        self.assertEqual(last(*words(*FORTY), ("begins", 26), ("word", [9])), [0])

    def test_refused_leaves_the_list_as_it_was(self):
        got = run(*words([1], [], [26], [1], [2]), text([0]), ("readings",))
        self.assertEqual(got, [[0], [-1], [-1], [-4], [1], [1], [2, 1]])

    def test_refused_41st_is_not_read(self):
        got = last(*words(*FORTY), ("word", [9]), text([0]), ("readings",))
        self.assertEqual(got, [0])

    def test_keeps_text_and_hints(self):
        got = run(text([0, 1]), ("hint", 0, 5), *words([4, 3], [5, 3]), ("readings",))
        self.assertEqual(got, [[2], [0], [0], [1], [1, 5, 3]])
