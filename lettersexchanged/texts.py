"""Words and texts as they are told: rows of letters, which are numbers below n."""

MOST_LETTERS = 8
MOST_TEXT_WORDS = 8


def is_word(letters, n):
    """Whether the letters are 1 to 8, each below n."""
    if not 1 <= len(letters) <= MOST_LETTERS:
        return False
    return max(letters) < n


def words_told(told, n):
    """The words of a text told as how many letters, they, word by word; None if it is told wrong."""
    words = []
    place = 0
    while place < len(told):
        count = told[place]
        first = place + 1
        letters = told[first:first + count]
        # A slice ends where the row ends, so a word that is cut off shows by its length alone.
        if len(letters) != count or not is_word(letters, n):
            return None
        words.append(tuple(letters))
        place = first + count
    if not 1 <= len(words) <= MOST_TEXT_WORDS:
        return None
    return words


def unlike_letters(words):
    """Each letter of the words once, rising."""
    letters = []
    for word in words:
        letters.extend(word)
    return sorted(set(letters))
