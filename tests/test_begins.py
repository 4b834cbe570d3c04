import unittest

from tests.helper import BIGGEST, last, run, text, words


class Begins(unittest.TestCase):

    def test_answers_0(self):
        self.assertEqual(run(("begins", 5)), [[0]])

    def test_least_and_most_n(self):
        self.assertEqual(run(("begins", 2), ("begins", 26)), [[0], [0]])

    def test_n_outside_is_refused(self):
        for n in (0, 1, 27, 28, BIGGEST):
            self.assertEqual(run(("begins", n)), [[-1]], n)

    def test_n_is_26_at_the_beginning(self):
        self.assertEqual(run(("word", [25]), ("word", [26])), [[0], [-1]])

    def test_n_holds_from_then_on(self):
        self.assertEqual(run(("begins", 2), ("word", [1]), ("word", [2])), [[0], [0], [-1]])
        self.assertEqual(run(("begins", 2), ("begins", 26), ("word", [25])), [[0], [0], [0]])

    def test_list_is_empty_then(self):
        got = run(("word", [0]), ("word", [1]), ("begins", 26), ("word", [1]), ("word", [0]))
        self.assertEqual(got, [[0], [1], [0], [0], [1]])

    def test_words_of_before_read_nothing(self):
        got = run(("word", [3]), ("begins", 26), text([0]), ("readings",))
        self.assertEqual(got[-1], [0])

    def test_there_is_no_text_then(self):
        before = words([0]) + [text([0])]
        for call in (("hint", 0, 0), ("readings",), ("sure",), ("may", 0), ("tells", 0), ("need", 0), ("nearest",),
                     ("shapes", 0)):
            self.assertEqual(last(*before, ("begins", 26), call), [-3])

    def test_there_is_no_hint_then(self):
        got = run(text([0]), ("hint", 0, 7), ("begins", 26), ("word", [3]), text([0]),
                  ("readings",), ("hint", 0, 7))
        self.assertEqual(got[-2:], [[1, 3], [0]])

    def test_refused_leaves_all_as_it_was(self):
        for n in (1, 27):
            got = run(("begins", 5), ("word", [4, 3]), ("word", [1, 2]), text([0, 1]), ("hint", 0, 1),
                      ("begins", n), ("readings",), ("sure",), ("word", [4, 3]), ("word", [5]),
                      ("word", [4]), ("hint", 0, 1))
            self.assertEqual(got[5:], [[-1], [1, 1, 2], [0, 1, 2], [-4], [-1], [2], [-4]])
