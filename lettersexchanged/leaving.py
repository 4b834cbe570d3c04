"""How few words are to be left out of a text, that there be a way to read the others.

Words of the list are told as bits here: 1 for the word 0, 2 for the word 1, 4 for the word 2, and so on.
"""

from lettersexchanged.ways import fitting_numbers, longer_way


def bits_of(numbers):
    """The numbers as bits."""
    bits = 0
    for number in numbers:
        bits = bits | (1 << number)
    return bits


def words_beside(text, words, hints):
    """For each place of the text, by the number of the word that it's read as, what each place can be then."""
    beside = []
    for written in text:
        by_number = {}
        for number in fitting_numbers(hints, written, words):
            way = longer_way(hints, written, words[number])
            by_number[number] = [bits_of(fitting_numbers(way, other, words)) for other in text]
        beside.append(by_number)
    return beside


def readable(places, free, beside):
    """Whether there's a way to read the words at the places, each as one that is free for its place.

    Two words at a time are held against each other: a way that is wrong gives two
    letters what they can't both stand for, and these lie in two of the words at most.
    """
    if not places:
        return True
    rest = places[1:]
    for number, others in beside[places[0]].items():
        if (free[places[0]] >> number) & 1:
            left = [bits & more for bits, more in zip(free, others)]
            if all([left[place] for place in rest]) and readable(rest, left, beside):
                return True
    return False


def sets_of_places(total, count):
    """All sets of so many places below total, by the sum of 1 for place 0, 2 for place 1, 4 for place 2, rising."""
    sets = []
    for bits in range(1 << total):
        places = [place for place in range(total) if (bits >> place) & 1]
        if len(places) == count:
            sets.append(places)
    return sets


def fewest_left_out(text, words, hints):
    """All sets of places, as few as may be, without whose words there's a way to read the others; in order."""
    beside = words_beside(text, words, hints)
    free = [bits_of(list(by_number)) for by_number in beside]
    enough = []
    count = 0
    # It ends: without any word there's always a way, which gives the letters of the hints alone.
    while not enough:
        for left_out in sets_of_places(len(text), count):
            kept = [place for place in range(len(text)) if place not in left_out]
            if readable(kept, free, beside):
                enough.append(left_out)
        count = count + 1
    return enough
