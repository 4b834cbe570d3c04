import unittest
from itertools import islice, permutations

from tests.helper import BIGGEST, last, run, text, words


def beginning_with(head, letters, count, many):
    """So many words that begin with head, then count unlike ones of the letters."""
    return [[head, *rest] for rest in islice(permutations(letters, count), many)]


# Ways to read begin with 0 or with 1. From 0 on there are 10 * 10 * 5 * 4 = 2000 of
# them, since the letters behind it lie apart from length to length; from 1 on one.
FROM_0 = (
    beginning_with(0, range(2, 12), 1, 10)
    + beginning_with(0, range(12, 16), 2, 10)
    + beginning_with(0, range(16, 20), 3, 5)
    + beginning_with(0, range(20, 24), 4, 4)
)
FROM_1 = [[1, 2], [1, 12, 13], [1, 16, 17, 18], [1, 20, 21, 22, 23]]
TEXT = ([0], [0, 1], [0, 2, 3], [0, 4, 5, 6], [0, 7, 8, 9, 10])
FIRST = [0, 2, 12, 13, 16, 17, 18, 20, 21, 22, 23]

# All words of four letters go on with 16, all words of five with 20.
SURE = [0, 0, 26, 26, 26, 16, 26, 26, 20, 26, 26, 26]

WAYS_2000 = words([0], *FROM_0)
WAYS_2001 = words([0], [1], *FROM_0, *FROM_1)

UNREADABLE = [11] * 6
ASKED = (("readings",), ("sure",))


class Many(unittest.TestCase):

    def test_2000_readings_are_not_many(self):
        got = run(*WAYS_2000, text(*TEXT), *ASKED)[-2:]
        self.assertEqual(got, [[2000] + FIRST, SURE])

    def test_2001_readings_are_many(self):
        self.assertEqual(run(*WAYS_2001, text(*TEXT), *ASKED)[-2:], [[-7], [-7]])

    def test_2000_ways_and_no_reading(self):
        self.assertEqual(run(*WAYS_2000, text(*TEXT, UNREADABLE), *ASKED)[-2:], [[0], [-6]])

    def test_2001_ways_and_no_reading(self):
        self.assertEqual(run(*WAYS_2001, text(*TEXT, UNREADABLE), *ASKED)[-2:], [[-7], [-7]])

    def test_2000_ways_and_fewer_readings(self):
        rows = WAYS_2000 + words([2, 12, 16])
        got = run(*rows, text(*TEXT, [1, 2, 4]), *ASKED)[-2:]
        # Of the second words 1, of the third 3 and of the fourth all 5 agree with the last word.
        self.assertEqual(got[0], [1 * 3 * 5 * 4] + FIRST)
        self.assertEqual(got[1], [0, 0, 2, 12, 26, 16, 26, 26, 20, 26, 26, 26])

    def test_2001_ways_and_fewer_readings(self):
        rows = WAYS_2001 + words([2, 12, 16])
        self.assertEqual(run(*rows, text(*TEXT, [1, 2, 4]), *ASKED)[-2:], [[-7], [-7]])

    def test_an_order_of_the_text_in_which_there_are_never_many(self):
        rows = WAYS_2001 + words([2, 12, 16])
        self.assertEqual(last(*rows, text([1, 2, 4], *TEXT), ("readings",)), [61] + FIRST)

    def test_many_among_the_first_words_not_the_last(self):
        got = run(*WAYS_2001, text(*TEXT, [0, 1], [0], [0, 2, 3]), *ASKED)[-2:]
        self.assertEqual(got, [[-7], [-7]])

    def test_a_hint_leaves_fewer_ways(self):
        got = run(*WAYS_2001, text(*TEXT), ("readings",), ("hint", 0, 0), ("readings",), ("sure",))
        self.assertEqual(got[-4:], [[-7], [0], [2000] + FIRST, SURE])

    def test_a_hint_of_a_later_word_leaves_fewer_ways(self):
        # 11 stands in the sixth word alone; being told, it is no longer free for the words ahead of it.
        rows = WAYS_2001 + words([2])
        got = run(*rows, text(*TEXT, [11]), ("readings",), ("hint", 11, 2), ("readings",))
        self.assertEqual(got[-3:], [[-7], [0], [9 * 10 * 5 * 4, 0, 3] + FIRST[2:] + [2]])

    def test_a_hint_of_a_later_word_leaves_none(self):
        rows = WAYS_2001
        got = run(*rows, text(*TEXT, UNREADABLE), ("sure",), ("hint", 11, 25), ("sure",),
                  text(*TEXT, UNREADABLE), ("hint", 11, 1), ("sure",))
        self.assertEqual(got[-6:], [[-7], [0], [-7], [12], [0], [-6]])

    def test_far_more_than_many(self):
        rows = words(*[[a] for a in range(26)])
        self.assertEqual(last(*rows, text(*[[k] for k in range(8)]), ("readings",)), [-7])

    def test_no_text_goes_before_many(self):
        self.assertEqual(run(*WAYS_2001, *ASKED)[-2:], [[-3], [-3]])

    def test_many_changes_nothing(self):
        got = run(*WAYS_2001, text(*TEXT), *ASKED, ("hint", 0, 1), *ASKED)
        reading = [1, 2, 12, 13, 16, 17, 18, 20, 21, 22, 23]
        self.assertEqual(got[-5:], [[-7], [-7], [0], [1] + reading, [0] + reading])


class ManyForOthers(unittest.TestCase):

    def test_2000_readings(self):
        got = run(*WAYS_2000, text(*TEXT), ("may", 1), ("may", 10), ("tells", 0), ("tells", 1999), ("tells", 2000),
                  ("need", 1999))[-6:]
        self.assertEqual(got, [[10, *range(2, 12)], [3, 21, 22, 23], [0, 0, 1, 11, 21, 26], [0, 0, 10, 20, 25, 29],
                               [-8], [-5]])
        self.assertEqual(last(*WAYS_2000, text(*TEXT), ("need", 2000)), [-8])

    def test_2001_readings(self):
        asked = [("may", 0), ("may", 10), ("tells", 0), ("tells", 2000), ("need", 0), ("need", 2000)]
        self.assertEqual(run(*WAYS_2001, text(*TEXT), *asked)[-6:], [[-7]] * 6)

    def test_2000_ways_and_no_reading(self):
        got = run(*WAYS_2000, text(*TEXT, UNREADABLE), ("may", 0), ("may", 11), ("tells", 0), ("need", 0))[-4:]
        self.assertEqual(got, [[0], [0], [-8], [-8]])

    def test_2001_ways_and_no_reading(self):
        asked = [("may", 0), ("may", 11), ("tells", 0), ("need", 0)]
        self.assertEqual(run(*WAYS_2001, text(*TEXT, UNREADABLE), *asked)[-4:], [[-7]] * 4)

    def test_many_among_the_first_words_and_few_readings(self):
        rows = WAYS_2001 + words([2, 12, 16])
        asked = [("may", 0), ("tells", 0), ("need", 0)]
        self.assertEqual(run(*rows, text(*TEXT, [1, 2, 4]), *asked)[-3:], [[-7]] * 3)
        got = run(*rows, text([1, 2, 4], *TEXT), *asked)[-3:]
        self.assertEqual(got, [[2, 0, 1], [0, 35, 0, 2, 12, 22, 27], [-5]])

    def test_a_letter_that_is_not_in_the_text_goes_before_many(self):
        for letter in (11, 25, 26, BIGGEST):
            self.assertEqual(last(*WAYS_2001, text(*TEXT), ("may", letter)), [-2], letter)

    def test_many_goes_before_a_reading_that_is_not_there(self):
        got = run(*WAYS_2001, text(*TEXT), ("tells", 2001), ("tells", BIGGEST), ("need", 2001), ("need", BIGGEST))[-4:]
        self.assertEqual(got, [[-7]] * 4)

    def test_no_text_goes_before_many(self):
        asked = [("may", 0), ("tells", 0), ("need", 0), ("nearest",), ("shapes", 0)]
        self.assertEqual(run(*WAYS_2001, *asked)[-5:], [[-3]] * 5)

    def test_nearest_and_shapes_are_not_refused_for_many(self):
        got = run(*WAYS_2001, text(*TEXT), ("nearest",), ("shapes", 0), ("shapes", 4), ("shapes", 5))[-4:]
        self.assertEqual(got, [[0, 1], [2, 0, 1], [5, *range(27, 31), 34], [-2]])

    def test_nearest_where_many_ways_lead_nowhere(self):
        rows = words(*[[a] for a in range(26)], [1, 2, 3, 4])
        got = run(*rows, text([0], [1], [2], [3, 3, 3, 3], [4]), ("nearest",), ("readings",))[-2:]
        self.assertEqual(got, [[1, 1, 3], [-7]])

    def test_a_hint_leaves_fewer_ways(self):
        got = run(*WAYS_2001, text(*TEXT), ("hint", 0, 1), ("may", 0), ("may", 10), ("tells", 0), ("tells", 1),
                  ("need", 0), ("need", 1))[-6:]
        self.assertEqual(got, [[1, 1], [1, 23], [0, 1, 31, 32, 33, 34], [-8], [-5], [-8]])

    def test_many_changes_nothing(self):
        got = run(*WAYS_2001, text(*TEXT), ("may", 0), ("tells", 0), ("need", 0), ("hint", 0, 1), ("may", 0),
                  ("tells", 0), ("word", [1]), ("hint", 0, 0))[-8:]
        self.assertEqual(got, [[-7], [-7], [-7], [0], [1, 1], [0, 1, 31, 32, 33, 34], [-4], [-4]])
