"""A program's text taken apart: rows, words, numbers and names."""

DIGITS = "0123456789"
LETTERS = "abcdefghijklmnopqrstuvwxyz"


def sign_of(byte):
    """The sign that a byte stands for in a word."""
    if byte == 10:
        return "\n"
    if byte == 32:
        return " "
    if 48 <= byte <= 57:
        return DIGITS[byte - 48]
    if 97 <= byte <= 122:
        return LETTERS[byte - 97]
    # A word with any other byte is at fault wherever it stands and never told, so one sign does for all of them.
    return "?"


def words_of(row):
    """A row's words; none for a row of blanks alone."""
    return [word for word in row.split(" ") if word != ""]


def rows_of(text):
    """The words of each row of a text."""
    signs = "".join([sign_of(byte) for byte in text])
    return [words_of(row) for row in signs.split("\n")]


def number_of(word):
    """The number that a word tells, or None if it tells none."""
    if not 1 <= len(word) <= 3 or not all([sign in DIGITS for sign in word]):
        return None
    if len(word) > 1 and word[0] == "0":
        return None
    return int(word)


def is_name(word):
    """Whether a word is a name."""
    if not 1 <= len(word) <= 8 or word == "nil":
        return False
    return all([sign in LETTERS for sign in word])
