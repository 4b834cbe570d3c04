"""The desk: a list of words, a text and its hints; and the calls that are about it."""

from lettersexchanged.leaving import fewest_left_out
from lettersexchanged.telling import fewest_told
from lettersexchanged.texts import is_word, unlike_letters, words_told
from lettersexchanged.ways import all_readings, fitting_numbers

BEGINS = 0
WORD = 1
TEXT = 2
HINT = 3
READINGS = 4
SURE = 5
MAY = 6
TELLS = 7
NEAREST = 9
SHAPES = 10

# By the call's number: how many plain numbers it is told; None if it is told a row, with its count before it.
PLAIN_NUMBERS = (1, None, None, 2, 0, 0, 1, 1, 1, 0, 1)

TOLD_WRONG = -1
NOT_IN_TEXT = -2
NO_TEXT = -3
THERE_ALREADY = -4
LIST_FULL = -5
TOO_LARGE = -5
NO_READING = -6
MANY = -7
NO_SUCH_READING = -8

LEAST_N = 2
MOST_N = 26
MOST_WORDS = 40
MOST_LETTERS_FOR_NEED = 10
MOST_READINGS_FOR_NEED = 100
MOST_WORDS_FOR_NEAREST = 5


class Desk:
    """Each call answers a list of numbers; a refusal is a list of one number below 0.

    hint and what stands behind it are asked only where there's a text; found is all readings of it.
    """

    def __init__(self):
        self.n = MOST_N
        self.words = []
        # No text has no words, so an empty list says that there is none.
        self.written = []
        self.hints = {}

    def begins(self, n):
        if not LEAST_N <= n <= MOST_N:
            return [TOLD_WRONG]
        self.n = n
        self.words = []
        self.written = []
        self.hints = {}
        return [0]

    def word(self, letters):
        if not is_word(letters, self.n):
            return [TOLD_WRONG]
        if tuple(letters) in self.words:
            return [THERE_ALREADY]
        if len(self.words) == MOST_WORDS:
            return [LIST_FULL]
        self.words.append(tuple(letters))
        return [len(self.words) - 1]

    def text(self, told):
        written = words_told(told, self.n)
        if written is None:
            return [TOLD_WRONG]
        self.written = written
        self.hints = {}
        return [len(unlike_letters(written))]

    def hint(self, letter, meant):
        if letter not in unlike_letters(self.written):
            return [NOT_IN_TEXT]
        if meant >= self.n:
            return [TOLD_WRONG]
        if letter in self.hints or meant in list(self.hints.values()):
            return [THERE_ALREADY]
        self.hints[letter] = meant
        return [0]

    def nearest(self):
        if len(self.written) > MOST_WORDS_FOR_NEAREST:
            return [TOO_LARGE]
        sets = fewest_left_out(self.written, self.words, self.hints)
        return [len(sets[0]), len(sets)] + sets[0]

    def shapes(self, place):
        if place >= len(self.written):
            return [NOT_IN_TEXT]
        numbers = fitting_numbers(self.hints, self.written[place], self.words)
        return [len(numbers)] + numbers

    def readings(self, found):
        if not found:
            return [0]
        first = found[0]
        return [len(found)] + [first[letter] for letter in unlike_letters(self.written)]

    def sure(self, found):
        if not found:
            return [NO_READING]
        return [0] + [self.sure_meaning(letter, found) for letter in unlike_letters(self.written)]

    def sure_meaning(self, letter, found):
        """What the letter stands for in all readings found; n if it isn't the same in all."""
        meant = found[0][letter]
        for reading in found:
            if reading[letter] != meant:
                return self.n
        return meant

    def may(self, letter, found):
        meant = sorted(set([reading[letter] for reading in found]))
        return [len(meant)] + meant

    def tells(self, k, found):
        if k >= len(found):
            return [NO_SUCH_READING]
        return [0] + [self.number_read(word, found[k]) for word in self.written]

    def number_read(self, word, reading):
        """The number, in the list, of what the word of the text is by the reading."""
        return self.words.index(tuple([reading[letter] for letter in word]))

    def need(self, k, found):
        if k >= len(found):
            return [NO_SUCH_READING]
        letters = unlike_letters(self.written)
        if len(letters) > MOST_LETTERS_FOR_NEED or len(found) > MOST_READINGS_FOR_NEED:
            return [TOO_LARGE]
        fewest = fewest_told(letters, found[k], found)
        return [len(fewest)] + fewest


def split_calls(calls):
    """The calls one by one, each as its number and the list of what is told with it."""
    parts = []
    place = 0
    while place < len(calls):
        call = calls[place]
        first = place + 1
        count = PLAIN_NUMBERS[call]
        if count is None:
            count = calls[first]
            first = first + 1
        parts.append((call, calls[first:first + count]))
        place = first + count
    return parts


def answer(desk, call, told):
    """What the desk answers to one call."""
    if call == BEGINS:
        return desk.begins(told[0])
    if call == WORD:
        return desk.word(told)
    if call == TEXT:
        return desk.text(told)
    if not desk.written:
        return [NO_TEXT]
    if call == HINT:
        return desk.hint(told[0], told[1])
    if call == NEAREST:
        return desk.nearest()
    if call == SHAPES:
        return desk.shapes(told[0])
    return answer_of_readings(desk, call, told)


def answer_of_readings(desk, call, told):
    """What the desk answers to a call that is about all readings of its text."""
    # Of several refusals the one told first is answered: this one of may goes before many.
    if call == MAY and told[0] not in unlike_letters(desk.written):
        return [NOT_IN_TEXT]
    found = all_readings(desk.written, desk.words, desk.hints)
    if found is None:
        return [MANY]
    if call == READINGS:
        return desk.readings(found)
    if call == SURE:
        return desk.sure(found)
    if call == MAY:
        return desk.may(told[0], found)
    if call == TELLS:
        return desk.tells(told[0], found)
    return desk.need(told[0], found)


def answers(calls):
    """What a new desk answers to the calls: for each how many numbers, then these."""
    desk = Desk()
    given = []
    for call, told in split_calls(calls):
        numbers = answer(desk, call, told)
        given.append(len(numbers))
        given.extend(numbers)
    return given
