"""The form of words: integers and names."""

MOST_DIGITS = 5
LONGEST_NAME = 8


def is_natural(word):
    """Tell whether a word is an integer without a sign: one to five digits without leading zeros."""
    if not word.isascii() or not word.isdigit() or len(word) > MOST_DIGITS:
        return False
    return word == "0" or word[0] != "0"


def is_integer(word):
    """Tell whether a word is an integer, after a minus sign if it is negative."""
    if word.startswith("-"):
        return word != "-0" and is_natural(word[1:])
    return is_natural(word)


def is_name(word):
    """Tell whether a word has one to eight letters a to z."""
    return word.isascii() and word.isalpha() and word.islower() and len(word) <= LONGEST_NAME
