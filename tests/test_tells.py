import unittest

from tests.helper import BIGGEST, last, run, text, words


def told(before, count):
    """What tells answers for the readings from 0 on; so many as a line may ask for."""
    return run(*before, *[("tells", k) for k in range(count)])[len(before):]


class Tells(unittest.TestCase):

    def test_there_is_no_text(self):
        self.assertEqual(run(("tells", 0), ("word", [0]), ("tells", 0), ("tells", BIGGEST)), [[-3], [0], [-3], [-3]])

    def test_one_reading(self):
        self.assertEqual(last(*words([5], [1, 2], [3, 3]), text([0, 1]), ("tells", 0)), [0, 1])

    def test_a_number_for_each_word_of_the_text(self):
        rows = words([9, 9, 9], [1, 2, 3], [4, 4], [5])
        self.assertEqual(last(*rows, text([7], [8, 8], [7], [2, 1, 0]), ("tells", 0)), [0, 3, 2, 3, 1])

    def test_in_order_of_the_list(self):
        self.assertEqual(told(words([8], [3], [5]) + [text([0])], 4), [[0, 0], [0, 1], [0, 2], [-8]])

    def test_by_the_first_word_then_by_the_second(self):
        rows = words([1, 2], [2, 5, 6], [3, 4], [4, 7, 8], [2, 6, 5])
        self.assertEqual(told(rows + [text([0, 1], [1, 2, 3])], 4), [[0, 0, 1], [0, 0, 4], [0, 2, 3], [-8]])
        self.assertEqual(told(rows + [text([1, 2, 3], [0, 1])], 4), [[0, 1, 0], [0, 3, 2], [0, 4, 0], [-8]])

    def test_words_apart_in_every_pairing(self):
        rows = words([1], [2], [3])
        self.assertEqual(told(rows + [text([0], [9])], 6),
                         [[0, 0, 1], [0, 0, 2], [0, 1, 0], [0, 1, 2], [0, 2, 0], [0, 2, 1]])

    def test_reading_k_is_not_there(self):
        before = words([8], [3], [5]) + [text([0])]
        for k in (3, 4, BIGGEST):
            self.assertEqual(last(*before, ("tells", k)), [-8], k)

    def test_no_reading_at_all(self):
        for k in (0, 1, BIGGEST):
            self.assertEqual(last(text([0]), ("tells", k)), [-8], k)
            self.assertEqual(last(*words([1, 2], [3]), text([0, 0]), ("tells", k)), [-8], k)

    def test_more_than_100_readings_and_more_than_10_letters(self):
        before = words(*[[a] for a in range(10)], range(12, 20), range(9, 17)) + [text([0], [1], range(2, 10), [10])]
        # Beside the first long word 10 letters are free for three, beside the second 9.
        count = 10 * 9 * 8 + 9 * 8 * 7
        got = run(*before, ("readings",), ("tells", 0), ("tells", count - 1), ("tells", count))[-4:]
        self.assertEqual(got[0][0], count)
        self.assertEqual(got[1:], [[0, 0, 1, 10, 2], [0, 9, 8, 10, 7], [-8]])

    def test_hints_hold(self):
        before = words([1, 2], [3, 4], [5, 2], [6, 2]) + [text([0, 1])]
        self.assertEqual(told(before + [("hint", 1, 2)], 4), [[0, 0], [0, 2], [0, 3], [-8]])
        self.assertEqual(told(before + [("hint", 0, 6)], 2), [[0, 3], [-8]])
        self.assertEqual(told(before + [("hint", 0, 7)], 1), [[-8]])

    def test_asking_changes_nothing(self):
        before = words([1, 2], [3, 4]) + [text([0, 1])]
        got = run(*before, ("tells", 1), ("tells", 2), ("tells", 1), ("readings",), ("hint", 0, 3), ("tells", 0))
        self.assertEqual(got[3:], [[0, 1], [-8], [0, 1], [2, 1, 2], [0], [0, 1]])
