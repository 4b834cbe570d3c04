"""Holds the calls that ask against the document's own words, over many small desks.

Here every exchange of letters is tried out, which the program doesn't do.
"""

import unittest
from itertools import combinations, permutations
from random import Random

from tests.helper import run, text, words


def ways(first_words, rows, hints, n):
    letters = sorted({letter for word in first_words for letter in word} | set(hints))
    found = []
    for meant in permutations(range(n), len(letters)):
        way = dict(zip(letters, meant))
        read = [[way[letter] for letter in word] for word in first_words]
        if all(way[letter] == hints[letter] for letter in hints) and all(word in rows for word in read):
            found.append(([rows.index(word) for word in read], way))
    return [way for numbers, way in sorted(found, key=lambda pair: pair[0])]


def letters_of(written):
    return sorted({letter for word in written for letter in word})


def are_many(written, rows, hints, n):
    return any(len(ways(written[:i + 1], rows, hints, n)) > 2000 for i in range(len(written)))


def told_readings(found, letters):
    if not found:
        return [0]
    return [len(found)] + [found[0][letter] for letter in letters]


def told_sure(found, letters, n):
    if not found:
        return [-6]
    sure = []
    for letter in letters:
        meant = sorted({way[letter] for way in found})
        sure.append(meant[0] if len(meant) == 1 else n)
    return [0] + sure


def told_may(found, letter):
    meant = sorted({way[letter] for way in found})
    return [len(meant)] + meant


def told_tells(found, written, rows, k):
    if k >= len(found):
        return [-8]
    return [0] + [rows.index([found[k][letter] for letter in word]) for word in written]


def told_need(found, letters, k):
    if k >= len(found):
        return [-8]
    if len(found) > 100:
        return [-5]
    others = found[:k] + found[k + 1:]
    enough = []
    for count in range(len(letters) + 1):
        for chosen in combinations(letters, count):
            if not any(all(other[letter] == found[k][letter] for letter in chosen) for other in others):
                enough.append((count, list(chosen)))
    fewest = min(enough)
    return [fewest[0]] + fewest[1]


def told_nearest(written, rows, hints, n):
    """By all exchanges of all n letters: each leaves out just the words that it can't read."""
    sets = set()
    for exchange in permutations(range(n)):
        if all(exchange[letter] == hints[letter] for letter in hints):
            read = [[exchange[letter] for letter in word] for word in written]
            sets.add(tuple(place for place, word in enumerate(read) if word not in rows))
    least = min(len(places) for places in sets)
    fewest = [places for places in sets if len(places) == least]
    return [least, len(fewest), *min(fewest, key=lambda places: sum(2 ** place for place in places))]


def told_shapes(written, rows, hints, n, place):
    if place >= len(written):
        return [-2]
    read = [[way[letter] for letter in written[place]] for way in ways([written[place]], rows, hints, n)]
    numbers = sorted({rows.index(word) for word in read})
    return [len(numbers)] + numbers


def some_rows(source, n, count, longest):
    return [[source.randrange(n) for place in range(source.randint(1, longest))] for number in range(count)]


def without_twins(rows):
    return [row for place, row in enumerate(rows) if row not in rows[:place]]


def coded(source, rows, n):
    """A text that has a reading: some of the rows with their letters exchanged."""
    stand_ins = source.sample(range(n), n)
    return [[stand_ins[letter] for letter in source.choice(rows)] for word in range(source.randint(1, 5))]


def some_hints(source, written, n):
    letters = letters_of(written)
    count = source.choice((0, 0, 1, 2))
    return dict(zip(source.sample(letters, min(count, len(letters))), source.sample(range(n), min(count, n))))


def some_desk(source):
    n = source.randint(2, 6)
    rows = without_twins(some_rows(source, n, source.randint(1, 25), source.randint(1, 4)))
    written = coded(source, rows, n)
    if source.random() < 0.3:
        written = some_rows(source, n, source.randint(1, 5), 3)
    return n, rows, written, some_hints(source, written, n)


class Definition(unittest.TestCase):

    def check(self, source):
        n, rows, written, hints = some_desk(source)
        letters = letters_of(written)
        found = ways(written, rows, hints, n)
        # So few letters can't be exchanged in more than 720 ways.
        self.assertFalse(are_many(written, rows, hints, n))
        letter = source.choice(letters)
        k = source.randint(0, len(found))
        places = range(len(written) + 1)
        before = [("begins", n), *words(*rows), text(*written), *[("hint", *hint) for hint in hints.items()]]
        asked = [("readings",), ("sure",), ("may", letter), ("tells", k), ("need", k), ("nearest",),
                 *[("shapes", place) for place in places]]
        got = run(*before, *asked)
        self.assertTrue(all(answer[0] >= 0 for answer in got[:len(before)]))
        expected = [
            told_readings(found, letters),
            told_sure(found, letters, n),
            told_may(found, letter),
            told_tells(found, written, rows, k),
            told_need(found, letters, k),
            told_nearest(written, rows, hints, n),
            *[told_shapes(written, rows, hints, n, place) for place in places],
        ]
        self.assertEqual(got[len(before):], expected, before + asked)
        return expected

    def test_small_desks(self):
        source = Random(2026)
        told = [self.check(source) for desk in range(1000)]
        # Else the desks would be too much alike to show anything.
        self.assertGreater(sum(answers[0][0] == 0 for answers in told), 50)
        self.assertGreater(sum(answers[0][0] > 5 for answers in told), 50)
        self.assertGreater(sum(answers[2][0] > 1 for answers in told), 50)
        self.assertGreater(sum(answers[3][0] == 0 for answers in told), 50)
        self.assertGreater(sum(answers[4][0] > 1 for answers in told), 20)
        self.assertGreater(sum(answers[5][0] > 0 and answers[5][1] > 1 for answers in told), 20)
