"""The desk: a list of words, a text and its hints; and the calls that are about it."""

from lettersexchanged.texts import is_word, unlike_letters, words_told
from lettersexchanged.ways import all_readings

BEGINS = 0
WORD = 1
TEXT = 2
HINT = 3
READINGS = 4

# By the call's number: how many plain numbers it is told; None if it is told a row, with its count before it.
PLAIN_NUMBERS = (1, None, None, 2, 0, 0)

TOLD_WRONG = -1
NOT_IN_TEXT = -2
NO_TEXT = -3
THERE_ALREADY = -4
LIST_FULL = -5
NO_READING = -6
MANY = -7

LEAST_N = 2
MOST_N = 26
MOST_WORDS = 40


class Desk:
    """Each call answers a list of numbers; a refusal is a list of one number below 0."""

    def __init__(self):
        self.n = MOST_N
        self.words = []
        # No text has no words, so an empty list says that there is none.
        self.written = []
        self.hints = {}

    def begins(self, n):
        if not LEAST_N <= n <= MOST_N:
            return [TOLD_WRONG]
        self.n = n
        self.words = []
        self.written = []
        self.hints = {}
        return [0]

    def word(self, letters):
        if not is_word(letters, self.n):
            return [TOLD_WRONG]
        if tuple(letters) in self.words:
            return [THERE_ALREADY]
        if len(self.words) == MOST_WORDS:
            return [LIST_FULL]
        self.words.append(tuple(letters))
        return [len(self.words) - 1]

    def text(self, told):
        written = words_told(told, self.n)
        if written is None:
            return [TOLD_WRONG]
        self.written = written
        self.hints = {}
        return [len(unlike_letters(written))]

    def hint(self, letter, meant):
        if not self.written:
            return [NO_TEXT]
        if letter not in unlike_letters(self.written):
            return [NOT_IN_TEXT]
        if meant >= self.n:
            return [TOLD_WRONG]
        if letter in self.hints or meant in list(self.hints.values()):
            return [THERE_ALREADY]
        self.hints[letter] = meant
        return [0]

    def readings(self):
        if not self.written:
            return [NO_TEXT]
        found = all_readings(self.written, self.words, self.hints)
        if found is None:
            return [MANY]
        if not found:
            return [0]
        first = found[0]
        return [len(found)] + [first[letter] for letter in unlike_letters(self.written)]

    def sure(self):
        if not self.written:
            return [NO_TEXT]
        found = all_readings(self.written, self.words, self.hints)
        if found is None:
            return [MANY]
        if not found:
            return [NO_READING]
        return [0] + [self.sure_meaning(letter, found) for letter in unlike_letters(self.written)]

    def sure_meaning(self, letter, found):
        """What the letter stands for in all readings found; n if it isn't the same in all."""
        meant = found[0][letter]
        for reading in found:
            if reading[letter] != meant:
                return self.n
        return meant


def split_calls(calls):
    """The calls one by one, each as its number and the list of what is told with it."""
    parts = []
    place = 0
    while place < len(calls):
        call = calls[place]
        first = place + 1
        count = PLAIN_NUMBERS[call]
        if count is None:
            count = calls[first]
            first = first + 1
        parts.append((call, calls[first:first + count]))
        place = first + count
    return parts


def answer(desk, call, told):
    """What the desk answers to one call."""
    if call == BEGINS:
        return desk.begins(told[0])
    if call == WORD:
        return desk.word(told)
    if call == TEXT:
        return desk.text(told)
    if call == HINT:
        return desk.hint(told[0], told[1])
    if call == READINGS:
        return desk.readings()
    return desk.sure()


def answers(calls):
    """What a new desk answers to the calls: for each how many numbers, then these."""
    desk = Desk()
    given = []
    for call, told in split_calls(calls):
        numbers = answer(desk, call, told)
        given.append(len(numbers))
        given.extend(numbers)
    return given
