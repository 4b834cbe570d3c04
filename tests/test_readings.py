import unittest

from tests.helper import last, run, text, words


class Readings(unittest.TestCase):

    def test_there_is_no_text(self):
        self.assertEqual(run(("readings",), ("word", [0]), ("readings",)), [[-3], [0], [-3]])

    def test_empty_list_reads_nothing(self):
        self.assertEqual(last(text([0]), ("readings",)), [0])

    def test_no_reading_is_0_alone(self):
        self.assertEqual(last(*words([1, 2], [3]), text([0, 0]), ("readings",)), [0])

    def test_word_of_another_length_does_not_fit(self):
        self.assertEqual(last(*words([1, 2, 3], [1]), text([0, 1]), ("readings",)), [0])
        self.assertEqual(last(*words([1, 2, 3], [1], [1, 2]), text([0, 1]), ("readings",)), [1, 1, 2])

    def test_same_letter_stands_for_the_same_in_a_word(self):
        self.assertEqual(last(*words([1, 2, 3], [1, 2, 1]), text([0, 4, 0]), ("readings",)), [1, 1, 2])

    def test_same_letter_stands_for_the_same_across_words(self):
        got = last(*words([1, 2], [3, 4], [4, 5]), text([7, 8], [8, 9]), ("readings",))
        self.assertEqual(got, [1, 3, 4, 5])

    def test_unlike_letters_stand_for_unlike_in_a_word(self):
        self.assertEqual(last(*words([1, 1], [1, 2]), text([0, 4]), ("readings",)), [1, 1, 2])

    def test_unlike_letters_stand_for_unlike_across_words(self):
        got = last(*words([1, 2], [2, 1], [2, 3], [3, 4]), text([6, 7], [8, 9]), ("readings",))
        self.assertEqual(got, [4, 1, 2, 3, 4])

    def test_unlike_letters_of_words_apart(self):
        self.assertEqual(last(*words([1], [2, 3], [4, 1]), text([0], [5, 6], [0]), ("readings",)), [1, 1, 2, 3])

    def test_letters_are_told_rising(self):
        self.assertEqual(last(*words([10, 20, 15]), text([9, 2, 5]), ("readings",)), [1, 20, 15, 10])

    def test_first_by_the_first_word_number(self):
        self.assertEqual(last(*words([8], [3], [5]), text([0]), ("readings",)), [3, 8])

    def test_first_by_the_first_word_then_the_second(self):
        rows = words([9, 1], [7, 2], [8, 8], [3, 3])
        self.assertEqual(last(*rows, text([0, 4], [6, 6]), ("readings",)), [4, 9, 1, 8])
        self.assertEqual(last(*rows, text([6, 6], [0, 4]), ("readings",)), [4, 9, 1, 8])

    def test_first_word_of_the_text_counts_before_the_second(self):
        rows = words([1, 2], [2, 5, 6], [3, 4], [4, 7, 8], [2, 6, 5])
        self.assertEqual(last(*rows, text([0, 1], [1, 2, 3]), ("readings",)), [3, 1, 2, 5, 6])
        self.assertEqual(last(*rows, text([1, 2, 3], [0, 1]), ("readings",)), [3, 1, 2, 5, 6])
        rows = words([4, 7, 8], [1, 2], [2, 5, 6], [3, 4])
        self.assertEqual(last(*rows, text([0, 1], [1, 2, 3]), ("readings",)), [2, 1, 2, 5, 6])
        self.assertEqual(last(*rows, text([1, 2, 3], [0, 1]), ("readings",)), [2, 3, 4, 7, 8])

    def test_same_word_twice_in_the_text(self):
        self.assertEqual(last(*words([1], [2]), text([0], [0], [0]), ("readings",)), [2, 1])

    def test_longest_words(self):
        rows = words(range(8), [0, 1, 2, 3, 4, 5, 6, 8], range(7))
        got = last(*rows, text(range(10, 18)), ("hint", 17, 8), ("readings",))
        self.assertEqual(got, [1, 0, 1, 2, 3, 4, 5, 6, 8])

    def test_hint_of_a_later_word_is_kept_from_earlier_ones(self):
        got = last(*words([3], [4], [4, 4]), text([0], [1, 1]), ("hint", 1, 4), ("readings",))
        self.assertEqual(got, [1, 3, 4])

    def test_asking_changes_nothing(self):
        before = words([1, 2], [3, 4]) + [text([0, 1])]
        got = run(*before, ("readings",), ("sure",), ("readings",), ("sure",), ("hint", 0, 3), ("readings",))
        self.assertEqual(got[3:], [[2, 1, 2], [0, 26, 26], [2, 1, 2], [0, 26, 26], [0], [1, 3, 4]])

    def test_word_that_comes_later_counts(self):
        got = run(("word", [1]), text([0]), ("readings",), ("word", [2]), ("readings",))
        self.assertEqual(got[2:], [[1, 1], [1], [2, 1]])


class Sure(unittest.TestCase):

    def test_there_is_no_text(self):
        self.assertEqual(run(("sure",), ("word", [0]), ("sure",)), [[-3], [0], [-3]])

    def test_no_reading(self):
        self.assertEqual(last(text([0]), ("sure",)), [-6])
        self.assertEqual(last(*words([1, 2], [3]), text([0, 0]), ("sure",)), [-6])

    def test_one_reading_makes_all_sure(self):
        self.assertEqual(last(*words([10, 20, 15]), text([9, 2, 5]), ("sure",)), [0, 20, 15, 10])

    def test_n_for_what_is_not_sure(self):
        rows = words([1, 2, 3], [1, 4, 3])
        self.assertEqual(last(*rows, text([5, 6, 7]), ("sure",)), [0, 1, 26, 3])
        self.assertEqual(last(("begins", 5), *rows, text([2, 1, 0]), ("sure",)), [0, 3, 5, 1])

    def test_last_reading_alone_differs(self):
        self.assertEqual(last(*words([1, 2], [1, 3], [4, 2]), text([0, 1]), ("sure",)), [0, 26, 26])
        self.assertEqual(last(*words([1, 2], [1, 3], [1, 4]), text([0, 1]), ("sure",)), [0, 1, 26])

    def test_first_and_last_reading_alike(self):
        self.assertEqual(last(*words([1, 2], [3, 4], [1, 5]), text([0, 1]), ("sure",)), [0, 26, 26])

    def test_hint_makes_sure(self):
        got = run(*words([1, 2], [3, 4]), text([0, 1]), ("sure",), ("hint", 1, 4), ("sure",))
        self.assertEqual(got[3:], [[0, 26, 26], [0], [0, 3, 4]])

    def test_letter_0_may_be_sure(self):
        self.assertEqual(last(("begins", 2), ("word", [0, 1]), text([1, 0]), ("sure",)), [0, 1, 0])
