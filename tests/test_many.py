import unittest
from itertools import islice, permutations

from tests.helper import last, run, text, words


def beginning_with(head, letters, count, many):
    """So many words that begin with head, then count unlike ones of the letters."""
    return [[head, *rest] for rest in islice(permutations(letters, count), many)]


# Ways to read begin with 0 or with 1. From 0 on there are 10 * 10 * 5 * 4 = 2000 of
# them, since the letters behind it lie apart from length to length; from 1 on one.
FROM_0 = (
    beginning_with(0, range(2, 12), 1, 10)
    + beginning_with(0, range(12, 16), 2, 10)
    + beginning_with(0, range(16, 20), 3, 5)
    + beginning_with(0, range(20, 24), 4, 4)
)
FROM_1 = [[1, 2], [1, 12, 13], [1, 16, 17, 18], [1, 20, 21, 22, 23]]
TEXT = ([0], [0, 1], [0, 2, 3], [0, 4, 5, 6], [0, 7, 8, 9, 10])
FIRST = [0, 2, 12, 13, 16, 17, 18, 20, 21, 22, 23]

# All words of four letters go on with 16, all words of five with 20.
SURE = [0, 0, 26, 26, 26, 16, 26, 26, 20, 26, 26, 26]

WAYS_2000 = words([0], *FROM_0)
WAYS_2001 = words([0], [1], *FROM_0, *FROM_1)

UNREADABLE = [11] * 6
ASKED = (("readings",), ("sure",))


class Many(unittest.TestCase):

    def test_2000_readings_are_not_many(self):
        got = run(*WAYS_2000, text(*TEXT), *ASKED)[-2:]
        self.assertEqual(got, [[2000] + FIRST, SURE])

    def test_2001_readings_are_many(self):
        self.assertEqual(run(*WAYS_2001, text(*TEXT), *ASKED)[-2:], [[-7], [-7]])

    def test_2000_ways_and_no_reading(self):
        self.assertEqual(run(*WAYS_2000, text(*TEXT, UNREADABLE), *ASKED)[-2:], [[0], [-6]])

    def test_2001_ways_and_no_reading(self):
        self.assertEqual(run(*WAYS_2001, text(*TEXT, UNREADABLE), *ASKED)[-2:], [[-7], [-7]])

    def test_2000_ways_and_fewer_readings(self):
        rows = WAYS_2000 + words([2, 12, 16])
        got = run(*rows, text(*TEXT, [1, 2, 4]), *ASKED)[-2:]
        # Of the second words 1, of the third 3 and of the fourth all 5 agree with the last word.
        self.assertEqual(got[0], [1 * 3 * 5 * 4] + FIRST)
        self.assertEqual(got[1], [0, 0, 2, 12, 26, 16, 26, 26, 20, 26, 26, 26])

    def test_2001_ways_and_fewer_readings(self):
        rows = WAYS_2001 + words([2, 12, 16])
        self.assertEqual(run(*rows, text(*TEXT, [1, 2, 4]), *ASKED)[-2:], [[-7], [-7]])

    def test_an_order_of_the_text_in_which_there_are_never_many(self):
        rows = WAYS_2001 + words([2, 12, 16])
        self.assertEqual(last(*rows, text([1, 2, 4], *TEXT), ("readings",)), [61] + FIRST)

    def test_many_among_the_first_words_not_the_last(self):
        got = run(*WAYS_2001, text(*TEXT, [0, 1], [0], [0, 2, 3]), *ASKED)[-2:]
        self.assertEqual(got, [[-7], [-7]])

    def test_a_hint_leaves_fewer_ways(self):
        got = run(*WAYS_2001, text(*TEXT), ("readings",), ("hint", 0, 0), ("readings",), ("sure",))
        self.assertEqual(got[-4:], [[-7], [0], [2000] + FIRST, SURE])

    def test_a_hint_of_a_later_word_leaves_fewer_ways(self):
        # 11 stands in the sixth word alone; being told, it is no longer free for the words ahead of it.
        rows = WAYS_2001 + words([2])
        got = run(*rows, text(*TEXT, [11]), ("readings",), ("hint", 11, 2), ("readings",))
        self.assertEqual(got[-3:], [[-7], [0], [9 * 10 * 5 * 4, 0, 3] + FIRST[2:] + [2]])

    def test_a_hint_of_a_later_word_leaves_none(self):
        rows = WAYS_2001
        got = run(*rows, text(*TEXT, UNREADABLE), ("sure",), ("hint", 11, 25), ("sure",),
                  text(*TEXT, UNREADABLE), ("hint", 11, 1), ("sure",))
        self.assertEqual(got[-6:], [[-7], [0], [-7], [12], [0], [-6]])

    def test_far_more_than_many(self):
        rows = words(*[[a] for a in range(26)])
        self.assertEqual(last(*rows, text(*[[k] for k in range(8)]), ("readings",)), [-7])

    def test_no_text_goes_before_many(self):
        self.assertEqual(run(*WAYS_2001, *ASKED)[-2:], [[-3], [-3]])

    def test_many_changes_nothing(self):
        got = run(*WAYS_2001, text(*TEXT), *ASKED, ("hint", 0, 1), *ASKED)
        reading = [1, 2, 12, 13, 16, 17, 18, 20, 21, 22, 23]
        self.assertEqual(got[-5:], [[-7], [-7], [0], [1] + reading, [0] + reading])
