"""Texts that consist of lines of words: libraries and netlists."""

MAX_NAME = 12

DIGITS = "0123456789"
LETTERS = "abcdefghijklmnopqrstuvwxyzABCDEFGHIJKLMNOPQRSTUVWXYZ"


def consists_of(word, characters):
    """Tell whether all characters of a word are among the given ones."""
    return all([character in characters for character in word])


def is_number(word, low, high):
    """Tell whether a word writes a number from low to high, which is not negative."""
    if not 1 <= len(word) <= len(str(high)) or not consists_of(word, DIGITS):
        return False
    return str(int(word)) == word and low <= int(word) <= high


def is_cell_name(word):
    """Tell whether a word has the form of the name of a cell."""
    return 1 <= len(word) <= MAX_NAME and word[0] in LETTERS and consists_of(word, LETTERS + DIGITS)


def lines_of(text):
    """Return the pairs of the index and the words of each line.

    What stands behind the last newline has no words, as no line of the right form has.
    """
    lines = text.split("\n")
    found = []
    at = 0
    for line in lines[:-1]:
        found.append((at, line.split(" ")))
        at += len(line) + 1
    if at < len(text) or not found:
        found.append((at, []))
    return found
