"""How few letters have to be told for one reading to be the only one."""


def agree(reading, other, letters):
    """Whether each of the letters stands for the same in both readings."""
    return all([reading[letter] == other[letter] for letter in letters])


def told_enough(letters, reading, found):
    """Whether the reading is the only one found that agrees with it in all of the letters."""
    return len([other for other in found if agree(reading, other, letters)]) == 1


def with_one_more(sets, letters):
    """All sets of one letter more than these, each written rising, the one with the lesser letter first.

    The order comes by itself, since the smaller sets have it and the letters rise.
    """
    larger = []
    for chosen in sets:
        for letter in letters:
            if not chosen or letter > chosen[-1]:
                larger.append(chosen + [letter])
    return larger


def fewest_told(letters, reading, found):
    """The first of the least sets of the letters (which are rising) that are told enough for the reading."""
    sets = [[]]
    enough = []
    # It ends: readings differ in some letter, so all letters together are told enough.
    while not enough:
        enough = [chosen for chosen in sets if told_enough(chosen, reading, found)]
        sets = with_one_more(sets, letters)
    return enough[0]
