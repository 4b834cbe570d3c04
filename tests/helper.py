"""Tells calls by name and takes the answers apart, so that tests can be read."""

from lettersexchanged.desk import answers

NUMBERS = {"begins": 0, "word": 1, "text": 2, "hint": 3, "readings": 4, "sure": 5, "may": 6, "tells": 7, "need": 8,
           "nearest": 9, "shapes": 10}

BIGGEST = 4294967295


def flat(calls):
    """The list of numbers for calls such as ("begins", 5), ("word", [0, 1]), ("sure",)."""
    numbers = []
    for call in calls:
        numbers.append(NUMBERS[call[0]])
        for told in call[1:]:
            if isinstance(told, int):
                numbers.append(told)
            else:
                numbers.append(len(told))
                numbers.extend(told)
    return numbers


def apart(given):
    """The answers call by call, from the list that is given back."""
    parts = []
    place = 0
    while place < len(given):
        count = given[place]
        part = given[place + 1:place + 1 + count]
        if count < 1 or len(part) != count:
            raise AssertionError(f"counts don't fit: {given}")
        parts.append(part)
        place += 1 + count
    return parts


def run(*calls):
    """The answers to the calls, one list for each."""
    parts = apart(answers(flat(calls)))
    if len(parts) != len(calls):
        raise AssertionError(f"{len(calls)} calls, {len(parts)} answers")
    return parts


def words(*rows):
    """A call of word for each row."""
    return [("word", list(row)) for row in rows]


def text(*rows):
    """The call of text for these words."""
    told = []
    for row in rows:
        told.append(len(row))
        told.extend(row)
    return ("text", told)


def last(*calls):
    """The answer to the last of the calls."""
    return run(*calls)[-1]


# Forty words without a letter above 9.
FORTY = [[a, b] for a in range(4) for b in range(10)]
