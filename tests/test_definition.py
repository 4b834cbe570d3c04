"""Holds readings and sure against the document's own words, over many small desks.

Here every exchange of letters is tried out, which the program doesn't do.
"""

import unittest
from itertools import permutations
from random import Random

from tests.helper import run, text, words


def ways(first_words, rows, hints, n):
    letters = sorted({letter for word in first_words for letter in word} | set(hints))
    found = []
    for meant in permutations(range(n), len(letters)):
        way = dict(zip(letters, meant))
        read = [[way[letter] for letter in word] for word in first_words]
        if all(way[letter] == hints[letter] for letter in hints) and all(word in rows for word in read):
            found.append(([rows.index(word) for word in read], way))
    return [way for numbers, way in sorted(found, key=lambda pair: pair[0])]


def expected(written, rows, hints, n):
    for i in range(len(written)):
        if len(ways(written[:i + 1], rows, hints, n)) > 2000:
            return [[-7], [-7]]
    found = ways(written, rows, hints, n)
    if not found:
        return [[0], [-6]]
    letters = sorted({letter for word in written for letter in word})
    sure = []
    for letter in letters:
        meant = sorted({way[letter] for way in found})
        sure.append(meant[0] if len(meant) == 1 else n)
    return [[len(found)] + [found[0][letter] for letter in letters], [0] + sure]


def some_rows(source, n, count, longest):
    return [[source.randrange(n) for place in range(source.randint(1, longest))] for number in range(count)]


def without_twins(rows):
    return [row for place, row in enumerate(rows) if row not in rows[:place]]


def coded(source, rows, n):
    """A text that has a reading: some of the rows with their letters exchanged."""
    stand_ins = source.sample(range(n), n)
    return [[stand_ins[letter] for letter in source.choice(rows)] for word in range(source.randint(1, 5))]


def some_hints(source, written, n):
    letters = sorted({letter for word in written for letter in word})
    count = source.choice((0, 0, 1, 2))
    return dict(zip(source.sample(letters, min(count, len(letters))), source.sample(range(n), min(count, n))))


class Definition(unittest.TestCase):

    def check(self, source):
        n = source.randint(2, 6)
        rows = without_twins(some_rows(source, n, source.randint(1, 25), source.randint(1, 4)))
        written = coded(source, rows, n)
        if source.random() < 0.3:
            written = some_rows(source, n, source.randint(1, 5), 3)
        hints = some_hints(source, written, n)
        hinted = [("hint", letter, meant) for letter, meant in hints.items()]
        calls = [("begins", n), *words(*rows), text(*written), *hinted, ("readings",), ("sure",)]
        got = run(*calls)
        self.assertTrue(all(answer[0] >= 0 for answer in got[:-2]))
        self.assertEqual(got[-2:], expected(written, rows, hints, n), calls)
        return got[-2][0]

    def test_small_desks(self):
        source = Random(2026)
        counts = [self.check(source) for desk in range(600)]
        # Else the desks would be too much alike to show anything.
        self.assertGreater(sum(1 for count in counts if count == 0), 50)
        self.assertGreater(sum(1 for count in counts if count > 5), 50)
