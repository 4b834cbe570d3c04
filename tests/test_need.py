import unittest
from itertools import islice, permutations

from tests.helper import BIGGEST, last, run, text, words


def needed(before, count):
    """What need answers for the readings from 0 on; so many as a line may ask for."""
    return run(*before, *[("need", k) for k in range(count)])[len(before):]


# 10 times 10 readings that give the letter 0 what it is itself, and one that gives it 1.
TRIPLES = [[0, *pair] for pair in islice(permutations(range(12, 16), 2), 10)]
READINGS_100 = words(*[[0, last_letter] for last_letter in range(2, 12)], *TRIPLES)
READINGS_101 = READINGS_100 + words([1, 2], [1, 12, 13])
TEXT_FOR_100 = text([0, 1], [0, 2, 3])

TEXT_OF_10 = text(range(8), [8, 9])
TEXT_OF_11 = text(range(8), [8, 9, 10])


class Need(unittest.TestCase):

    def test_there_is_no_text(self):
        self.assertEqual(run(("need", 0), ("word", [0]), ("need", 0), ("need", BIGGEST)), [[-3], [0], [-3], [-3]])

    def test_a_single_reading_needs_0_alone(self):
        self.assertEqual(last(*words([1, 2], [3, 3]), text([0, 1]), ("need", 0)), [0])

    def test_one_letter_is_enough(self):
        self.assertEqual(needed(words([1, 2, 3], [1, 4, 3]) + [text([5, 6, 7])], 2), [[1, 6], [1, 6]])

    def test_of_several_letters_the_least(self):
        self.assertEqual(needed(words([1, 2], [3, 4]) + [text([9, 2])], 2), [[1, 2], [1, 2]])
        self.assertEqual(needed(words([1, 2], [3, 4]) + [text([2, 9])], 2), [[1, 2], [1, 2]])

    def test_each_reading_needs_its_own(self):
        rows = words([1, 2], [1, 3], [4, 2], [4, 5])
        self.assertEqual(needed(rows + [text([0, 7])], 4), [[2, 0, 7], [1, 7], [2, 0, 7], [1, 7]])

    def test_of_several_sets_the_one_with_the_lesser_letter_first(self):
        # The others agree with the first reading in the letters 1 2, 1 3, 2 4 and 3 4: so 1 4 and 2 3 are enough.
        rows = words([0, 1, 2, 3], [0, 1, 4, 5], [0, 6, 2, 7], [8, 1, 9, 3], [10, 11, 2, 3])
        self.assertEqual(last(*rows, text([1, 2, 3, 4]), ("need", 0)), [2, 1, 4])
        self.assertEqual(last(*rows, text([4, 3, 2, 1]), ("need", 0)), [2, 1, 4])
        self.assertEqual(last(*rows, text([3, 9, 5, 20]), ("need", 0)), [2, 3, 20])

    def test_all_letters_but_one(self):
        # Told 1, 2 and 4, or 1, 2 and 3: no other reading agrees in these.
        rows = words([0, 1, 2, 3], [0, 1, 5, 6], [0, 8, 2, 3], [10, 1, 2, 3])
        self.assertEqual(last(*rows, text([1, 2, 3, 4]), ("need", 0)), [3, 1, 2, 3])

    def test_few_though_each_letter_alone_is_shared(self):
        rows = words([0, 1, 2], [0, 3, 4], [5, 1, 6], [7, 8, 2])
        self.assertEqual(needed(rows + [text([0, 1, 2])], 4), [[2, 0, 1], [1, 1], [1, 0], [1, 0]])

    def test_letters_of_several_words(self):
        rows = words([1], [2], [3, 3], [4, 4])
        self.assertEqual(needed(rows + [text([6, 6], [5])], 4), [[2, 5, 6]] * 4)

    def test_reading_k_is_not_there(self):
        before = words([8], [3], [5]) + [text([0])]
        self.assertEqual(last(*before, ("need", 2)), [1, 0])
        for k in (3, 4, BIGGEST):
            self.assertEqual(last(*before, ("need", k)), [-8], k)

    def test_no_reading_at_all(self):
        for k in (0, 1, BIGGEST):
            self.assertEqual(last(text([0]), ("need", k)), [-8], k)
            self.assertEqual(last(*words([1, 2], [3]), text([0, 0]), ("need", k)), [-8], k)

    def test_10_unlike_letters(self):
        rows = words(range(8), [8, 9], [10, 11])
        self.assertEqual(needed(rows + [TEXT_OF_10], 3), [[1, 8], [1, 8], [-8]])

    def test_all_of_10_letters(self):
        # Each other one agrees with the first in all letters but one.
        row = list(range(8))
        others = [row[:place] + [8 + place] + row[place + 1:] for place in range(8)]
        rows = words(row, *others, [16, 17], [18, 17], [16, 19])
        self.assertEqual(last(*rows, TEXT_OF_10, ("need", 0)), [10, *range(10)])

    def test_11_unlike_letters(self):
        rows = words(range(8), [8, 9, 10], [11, 12, 13])
        self.assertEqual(needed(rows + [TEXT_OF_11], 3), [[-5], [-5], [-8]])

    def test_11_unlike_letters_and_a_single_reading(self):
        self.assertEqual(needed(words(range(8), [8, 9, 10]) + [TEXT_OF_11], 2), [[-5], [-8]])

    def test_11_unlike_letters_and_no_reading(self):
        self.assertEqual(last(*words(range(8)), TEXT_OF_11, ("need", 0)), [-8])

    def test_11_unlike_letters_some_of_them_told(self):
        rows = words(range(8), [8, 9, 10], [11, 12, 13])
        self.assertEqual(last(*rows, TEXT_OF_11, ("hint", 0, 0), ("hint", 8, 8), ("need", 0)), [-5])

    def test_100_readings(self):
        got = run(*READINGS_100, TEXT_FOR_100, ("readings",), ("need", 0), ("need", 99), ("need", 100))[-4:]
        self.assertEqual(got, [[100, 0, 2, 12, 13], [3, 1, 2, 3], [2, 1, 2], [-8]])

    def test_101_readings(self):
        asked = [("need", k) for k in (0, 99, 100, 101, BIGGEST)]
        got = run(*READINGS_101, TEXT_FOR_100, ("readings",), *asked)[-6:]
        self.assertEqual(got, [[101, 0, 2, 12, 13], [-5], [-5], [-5], [-8], [-8]])

    def test_a_hint_leaves_100_of_101(self):
        got = run(*READINGS_101, TEXT_FOR_100, ("need", 0), ("hint", 0, 0), ("need", 0), ("need", 99), ("need", 100))
        self.assertEqual(got[-5:], [[-5], [0], [3, 1, 2, 3], [2, 1, 2], [-8]])

    def test_hints_hold(self):
        rows = words([1, 2], [1, 3], [4, 2], [4, 5])
        self.assertEqual(needed(rows + [text([0, 7]), ("hint", 0, 1)], 3), [[1, 7], [1, 7], [-8]])
        self.assertEqual(needed(rows + [text([0, 7]), ("hint", 7, 3)], 2), [[0], [-8]])
        self.assertEqual(needed(rows + [text([0, 7]), ("hint", 7, 6)], 1), [[-8]])

    def test_asking_changes_nothing(self):
        before = words([1, 2], [3, 4]) + [text([0, 1])]
        got = run(*before, ("need", 1), ("need", 2), ("need", 1), ("readings",), ("hint", 0, 3), ("need", 0))
        self.assertEqual(got[3:], [[1, 0], [-8], [1, 0], [2, 1, 2], [0], [0]])

    def test_too_large_changes_nothing(self):
        got = run(*READINGS_101, TEXT_FOR_100, ("need", 0), ("readings",), ("hint", 1, 2), ("need", 0), ("hint", 1, 3))
        self.assertEqual(got[-5:], [[-5], [101, 0, 2, 12, 13], [0], [3, 0, 2, 3], [-4]])
        got = run(*words(range(8), [8, 9, 10]), TEXT_OF_11, ("hint", 0, 0), ("need", 0), ("readings",), ("hint", 0, 0))
        self.assertEqual(got[-3:], [[-5], [1, *range(11)], [-4]])
