import unittest

from tests.helper import BIGGEST, FORTY, last, run, text, words


class Shapes(unittest.TestCase):

    def test_there_is_no_text(self):
        self.assertEqual(run(("shapes", 0), ("word", [0]), ("shapes", 0), ("shapes", BIGGEST)),
                         [[-3], [0], [-3], [-3]])

    def test_the_last_place_and_the_one_behind_it(self):
        for count in (1, 2, 5, 6, 8):
            before = words([5, 5], [7], [8]) + [text(*[[1, 1]] * (count - 1), [2])]
            got = run(*before, ("shapes", count - 1), ("shapes", count), ("shapes", BIGGEST))[-3:]
            self.assertEqual(got, [[2, 1, 2], [-2], [-2]], count)

    def test_place_by_place(self):
        before = words([1], [2, 3], [4, 4], [5, 6], [7]) + [text([0, 1], [2, 2], [3])]
        got = run(*before, ("shapes", 0), ("shapes", 1), ("shapes", 2))
        self.assertEqual(got[6:], [[2, 1, 3], [1, 2], [2, 0, 4]])

    def test_no_word_fits(self):
        self.assertEqual(last(text([0]), ("shapes", 0)), [0])
        self.assertEqual(last(*words([1, 2], [3], [4, 4, 4]), text([0, 0]), ("shapes", 0)), [0])

    def test_it_alone_is_to_be_read(self):
        before = words([1], [2], [3, 4], [5, 6]) + [text([0], [0, 1], [2, 2])]
        got = run(*before, ("readings",), ("shapes", 0), ("shapes", 1), ("shapes", 2))
        self.assertEqual(got[5:], [[0], [2, 0, 1], [2, 2, 3], [0]])

    def test_same_and_unlike_letters(self):
        rows = words([1, 2, 1], [1, 1, 2], [1, 2, 3], [3, 3, 3], [4, 5, 4], [6, 7, 7])
        self.assertEqual(last(*rows, text([8, 9, 8]), ("shapes", 0)), [2, 0, 4])
        self.assertEqual(last(*rows, text([8, 9, 7]), ("shapes", 0)), [1, 2])
        self.assertEqual(last(*rows, text([8, 8, 8]), ("shapes", 0)), [1, 3])

    def test_all_of_a_full_list(self):
        rows = [[a, b] for a in range(8) for b in range(8, 13)]
        self.assertEqual(last(*words(*rows), text([3, 2]), ("shapes", 0)), [40, *range(40)])
        got = last(*words(*FORTY), text([3, 3]), ("shapes", 0))
        self.assertEqual(got, [4, 0, 11, 22, 33])

    def test_hints_of_its_letters_hold(self):
        before = words([1, 2], [3, 4], [1, 5], [6, 2]) + [text([0, 7])]
        got = run(*before, ("shapes", 0), ("hint", 0, 1), ("shapes", 0), ("hint", 7, 5), ("shapes", 0))
        self.assertEqual(got[5:], [[4, 0, 1, 2, 3], [0], [2, 0, 2], [0], [1, 2]])

    def test_hints_of_other_letters_hold(self):
        before = words([1, 2], [3, 4], [1, 5], [6, 2]) + [text([0, 7], [9])]
        got = run(*before, ("hint", 9, 2), ("shapes", 0), ("shapes", 1), text([0, 7], [9]), ("shapes", 0))
        self.assertEqual(got[5:], [[0], [2, 1, 2], [0], [3], [4, 0, 1, 2, 3]])

    def test_asking_changes_nothing(self):
        before = words([1, 2], [3, 4]) + [text([0, 1])]
        got = run(*before, ("shapes", 0), ("shapes", 1), ("shapes", 0), ("readings",), ("hint", 0, 3), ("shapes", 0),
                  ("word", [3, 5]), ("shapes", 0))
        self.assertEqual(got[3:], [[2, 0, 1], [-2], [2, 0, 1], [2, 1, 2], [0], [1, 1], [2], [2, 1, 2]])
