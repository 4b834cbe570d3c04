import unittest

from tests.helper import BIGGEST, last, run, text, words


class Nearest(unittest.TestCase):

    def test_there_is_no_text(self):
        self.assertEqual(run(("nearest",), ("word", [0]), ("nearest",)), [[-3], [0], [-3]])

    def test_there_is_a_reading(self):
        self.assertEqual(last(*words([1, 2]), text([0, 1]), ("nearest",)), [0, 1])
        self.assertEqual(last(*words([1, 2], [2, 3], [4]), text([0, 1], [1, 5], [9]), ("nearest",)), [0, 1])

    def test_there_are_several_readings(self):
        self.assertEqual(last(*words([1], [2], [3]), text([0], [1], [2]), ("nearest",)), [0, 1])

    def test_empty_list(self):
        for count in range(1, 6):
            rows = [[k] for k in range(count)]
            self.assertEqual(last(text(*rows), ("nearest",)), [count, 1, *range(count)], count)

    def test_every_word_is_to_be_left_out(self):
        rows = words([1, 1], [1, 2, 3, 4])
        self.assertEqual(last(*rows, text([0, 1], [2], [3, 3, 3], [0, 2], [0, 1]), ("nearest",)),
                         [5, 1, 0, 1, 2, 3, 4])
        self.assertEqual(last(*rows, text([0, 1]), ("nearest",)), [1, 1, 0])

    def test_one_word_is_to_be_left_out(self):
        rows = words([1, 2], [2, 3, 3])
        self.assertEqual(last(*rows, text([0, 0], [1, 2], [2, 5, 5]), ("nearest",)), [1, 1, 0])
        self.assertEqual(last(*rows, text([1, 2], [0, 0], [2, 5, 5]), ("nearest",)), [1, 1, 1])
        self.assertEqual(last(*rows, text([1, 2], [2, 5, 5], [0, 0]), ("nearest",)), [1, 1, 2])

    def test_one_of_two_words_that_do_not_go_together(self):
        self.assertEqual(last(*words([5]), text([0], [1]), ("nearest",)), [1, 2, 0])
        self.assertEqual(last(*words([5, 6], [7, 7]), text([3, 3], [0, 1], [1, 0]), ("nearest",)), [1, 2, 1])

    def test_same_letter_must_stand_for_the_same(self):
        rows = words([1, 2], [3, 4, 5])
        self.assertEqual(last(*rows, text([0, 1], [1, 2, 3]), ("nearest",)), [1, 2, 0])
        self.assertEqual(last(*rows, text([0, 1], [4, 2, 3]), ("nearest",)), [0, 1])

    def test_unlike_letters_must_stand_for_unlike(self):
        rows = words([1, 2], [2, 4, 5])
        self.assertEqual(last(*rows, text([0, 1], [6, 7, 8]), ("nearest",)), [1, 2, 0])
        self.assertEqual(last(*rows, text([0, 1], [1, 7, 8]), ("nearest",)), [0, 1])

    def test_two_of_three_go_together_but_not_three(self):
        self.assertEqual(last(*words([5], [6]), text([0], [1], [2]), ("nearest",)), [1, 3, 0])

    def test_as_many_sets_as_there_may_be(self):
        rows = [[k] for k in range(5)]
        self.assertEqual(last(*words([5]), text(*rows), ("nearest",)), [4, 5, 0, 1, 2, 3])
        self.assertEqual(last(*words([5], [6]), text(*rows), ("nearest",)), [3, 10, 0, 1, 2])
        self.assertEqual(last(*words([5], [6], [7]), text(*rows), ("nearest",)), [2, 10, 0, 1])
        self.assertEqual(last(*words([5], [6], [7], [8]), text(*rows), ("nearest",)), [1, 5, 0])
        self.assertEqual(last(*words([5], [6], [7], [8], [9]), text(*rows), ("nearest",)), [0, 1])

    def test_the_set_whose_sum_is_least(self):
        # 0 and 3 go together, and 1 and 2: 2 + 4 is less than 1 + 8.
        self.assertEqual(last(*words([5, 6]), text([0, 1], [2, 0], [2, 0], [0, 1]), ("nearest",)), [2, 2, 1, 2])
        # Left out are 0 and 4, or 1 and 3: 2 + 8 is less than 1 + 16.
        rows = words([5, 6], [7, 7])
        self.assertEqual(last(*rows, text([0, 1], [2, 0], [8, 8], [2, 0], [0, 1]), ("nearest",)), [2, 2, 1, 3])

    def test_the_set_whose_sum_is_least_is_not_the_one_with_the_lesser_word(self):
        # 2 and 3 go with 4, and so do 0 and 1; 4 + 8 is more than 1 + 2.
        rows = words([5, 6], [7, 7])
        self.assertEqual(last(*rows, text([0, 1], [0, 1], [2, 0], [2, 0], [8, 8]), ("nearest",)), [2, 2, 0, 1])

    def test_the_same_word_several_times(self):
        self.assertEqual(last(*words([5]), text([0], [0], [1], [0], [1]), ("nearest",)), [2, 1, 2, 4])
        self.assertEqual(last(*words([5]), text([0], [0], [0], [0], [0]), ("nearest",)), [0, 1])

    def test_5_words_and_6(self):
        rows = words(*[[k] for k in range(10)])
        self.assertEqual(last(*rows, text(*[[k] for k in range(5)]), ("nearest",)), [0, 1])
        for count in (6, 7, 8):
            self.assertEqual(last(*rows, text(*[[k] for k in range(count)]), ("nearest",)), [-5], count)
            self.assertEqual(last(text(*[[0]] * count), ("nearest",)), [-5], count)

    def test_longest_words_and_a_full_list(self):
        rows = [[*range(7), 7 + last_letter] for last_letter in range(19)]
        rows = rows + [[*range(25, 18, -1), last_letter] for last_letter in range(19)]
        got = last(*words(*rows), text(range(8), [25, 24, 23, 22, 21, 20, 19, 18], range(1, 9)), ("nearest",))
        self.assertEqual(got, [1, 2, 0])

    def test_hints_hold(self):
        rows = words([5], [6, 7])
        got = run(*rows, text([0], [1, 2]), ("nearest",), ("hint", 0, 9), ("nearest",), ("hint", 1, 6), ("nearest",),
                  ("hint", 2, 8), ("nearest",))
        self.assertEqual(got[3:], [[0, 1], [0], [1, 1, 0], [0], [1, 1, 0], [0], [2, 1, 0, 1]])

    def test_hint_holds_though_its_word_is_left_out(self):
        got = run(*words([5]), text([0], [1]), ("nearest",), ("hint", 0, 5), ("nearest",))
        self.assertEqual(got[2:], [[1, 2, 0], [0], [1, 1, 1]])
        got = run(*words([5]), text([0, 0], [1]), ("nearest",), ("hint", 0, 5), ("nearest",))
        self.assertEqual(got[2:], [[1, 1, 0], [0], [2, 1, 0, 1]])

    def test_hint_makes_two_words_go_together_no_more(self):
        rows = words([5, 6], [6, 7], [5, 8], [9, 7])
        got = run(*rows, text([0, 1], [1, 2]), ("nearest",), ("hint", 1, 8), ("nearest",))
        self.assertEqual(got[5:], [[0, 1], [0], [1, 1, 1]])

    def test_hints_and_an_empty_list(self):
        self.assertEqual(last(text([0], [1]), ("hint", 0, 5), ("hint", 1, 6), ("nearest",)), [2, 1, 0, 1])

    def test_asking_changes_nothing(self):
        before = words([5]) + [text([0], [1])]
        got = run(*before, ("nearest",), ("nearest",), ("readings",), ("word", [6]), ("nearest",), ("hint", 1, 5),
                  ("nearest",), ("readings",))
        self.assertEqual(got[2:], [[1, 2, 0], [1, 2, 0], [0], [1], [0, 1], [0], [0, 1], [1, 6, 5]])

    def test_refused_changes_nothing(self):
        before = words([5], [6]) + [text(*[[0]] * 6), ("hint", 0, 6)]
        got = run(*before, ("nearest",), ("readings",), ("hint", 0, BIGGEST), ("hint", 0, 5), ("nearest",))
        self.assertEqual(got[4:], [[-5], [1, 6], [-1], [-4], [-5]])
