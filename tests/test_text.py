import unittest

from tests.helper import BIGGEST, last, run, text


class Text(unittest.TestCase):

    def test_answers_how_many_unlike_letters(self):
        self.assertEqual(run(text([0, 1, 2])), [[3]])
        self.assertEqual(run(text([7, 7])), [[1]])
        self.assertEqual(run(text([3, 1], [1, 3, 9], [9])), [[3]])

    def test_all_26_letters(self):
        rows = [list(range(8)), list(range(8, 16)), list(range(16, 24)), [24, 25]]
        self.assertEqual(run(text(*rows)), [[26]])

    def test_how_many_words(self):
        self.assertEqual(run(("text", [])), [[-1]])
        self.assertEqual(run(text([4])), [[1]])
        self.assertEqual(run(text(*[[k] for k in range(8)])), [[8]])
        self.assertEqual(run(text(*[[k] for k in range(9)])), [[-1]])
        self.assertEqual(run(text(*[[0]] * 50)), [[-1]])

    def test_how_many_letters_in_a_word(self):
        for count, answer in ((0, -1), (1, 1), (8, 1), (9, -1)):
            self.assertEqual(run(text([0] * count)), [[answer]], count)
            self.assertEqual(run(text([0], [0] * count)), [[answer]], count)
            self.assertEqual(run(text([0] * count, [0])), [[answer]], count)

    def test_the_longest_text(self):
        self.assertEqual(run(text(*[[2] * 8] * 8)), [[1]])

    def test_letters_below_n(self):
        for row, answer in (([4], 1), ([5], -1), ([0, 5], -1), ([5, 0], -1), ([BIGGEST], -1)):
            self.assertEqual(last(("begins", 5), text(row)), [answer], row)
            self.assertEqual(last(("begins", 5), text([4], row)), [answer if answer < 0 else 1], row)

    def test_ends_in_the_midst_of_a_word(self):
        for told in ([1], [2, 0], [8, 0, 1, 2, 3, 4, 5, 6], [1, 0, 1], [1, 0, 3, 1, 2], [BIGGEST], [BIGGEST, 0]):
            self.assertEqual(run(("text", told)), [[-1]], told)

    def test_it_is_the_text_from_then_on(self):
        got = run(("word", [5]), ("word", [6, 7]), text([0]), ("readings",), text([2, 3]), ("readings",))
        self.assertEqual(got[2:], [[1], [1, 5], [2], [1, 6, 7]])

    def test_letters_of_the_text_before_are_gone(self):
        self.assertEqual(run(text([0]), text([1]), ("hint", 0, 0), ("hint", 1, 0))[2:], [[-2], [0]])

    def test_takes_the_hints_away(self):
        got = run(("word", [5]), ("word", [6]), text([0]), ("hint", 0, 6), ("readings",),
                  text([0]), ("readings",), ("hint", 0, 6))
        self.assertEqual(got[4:], [[1, 6], [1], [2, 5], [0]])

    def test_keeps_the_list(self):
        self.assertEqual(run(("word", [5]), text([0]), ("word", [5]), ("word", [6]))[2:], [[-4], [1]])

    def test_refused_leaves_text_and_hints_as_they_were(self):
        for told in ([], [0], [1, 26], [2, 0], [1, 1, 0], [1] + [0] * 9):
            got = run(("word", [5]), ("word", [6]), text([0]), ("hint", 0, 6),
                      ("text", told), ("readings",), ("hint", 0, 6))
            self.assertEqual(got[4:], [[-1], [1, 6], [-4]], told)

    def test_refused_gives_no_text(self):
        self.assertEqual(run(("text", [1, 3, 2, 4]), ("readings",)), [[-1], [-3]])
