"""What a word is by itself: a name, a number."""

LONGEST_NAME = 12
SMALL_LETTERS = "abcdefghijklmnopqrstuvwxyz"
NAME_SIGNS = "abcdefghijklmnopqrstuvwxyz0123456789_"
LEAST_NUMBER = -2147483648
GREATEST_NUMBER = 2147483647
# No bound has more digits; a word may have thousands, which int refuses.
MOST_DIGITS = 10


def is_name(word):
    """Whether the word has the form of a name."""
    if len(word) > LONGEST_NAME or word[0] not in SMALL_LETTERS:
        return False
    return all([sign in NAME_SIGNS for sign in word])


def plain_number(word):
    """The number of a word of digits without a 0 in front; None if it is no such word, or beyond all bounds."""
    if not word.isdigit() or len(word) > MOST_DIGITS:
        return None
    if word.startswith("0") and word != "0":
        return None
    return int(word)


def signed_number(word):
    """The number of a word that may have a minus in front; None if it is none, or out of the bounds."""
    if word.startswith("-"):
        number = plain_number(word[1:])
        if number is None or number == 0 or -number < LEAST_NUMBER:
            return None
        return -number
    number = plain_number(word)
    if number is None or number > GREATEST_NUMBER:
        return None
    return number


def is_like_number(word):
    """Whether the word is of digits, or of a minus and digits."""
    if word.startswith("-"):
        return word[1:].isdigit()
    return word.isdigit()
