"""Ways to read: a way is a dict from letters of the text to the letters that they stand for."""

MOST_WAYS = 2000


def longer_way(way, written, word):
    """The way made longer so that what is written reads as the word; None if it can't."""
    if len(written) != len(word):
        return None
    longer = dict(way)
    for letter, meant in zip(written, word):
        if longer.get(letter, meant) != meant:
            return None
        longer[letter] = meant
    if len(set(list(longer.values()))) != len(longer):
        return None
    return longer


def fitting_numbers(way, written, words):
    """The numbers, in the list, of the words that what is written can be if the way holds."""
    return [number for number, word in enumerate(words) if longer_way(way, written, word) is not None]


def longer_ways(ways, written, words):
    """All ways that read what is written too, in order; cut off as soon as they are many."""
    found = []
    for way in ways:
        for word in words:
            longer = longer_way(way, written, word)
            if longer is not None:
                found.append(longer)
        if len(found) > MOST_WAYS:
            return found
    return found


def all_readings(text, words, hints):
    """All readings of the text, in order; None if they are many."""
    # The hints stand in the way from the start: no letter may stand for what a hint
    # has told of another one, even if that one comes in a later word only.
    ways = [dict(hints)]
    for written in text:
        # What doesn't go with the hints alone goes with no way: left out once, not for each way.
        fitting = [words[number] for number in fitting_numbers(hints, written, words)]
        ways = longer_ways(ways, written, fitting)
        if len(ways) > MOST_WAYS:
            return None
    return ways
