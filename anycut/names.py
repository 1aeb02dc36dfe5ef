"""What calls and keys may be called."""

from anycut.errors import InvalidName

LETTERS = "abcdefghijklmnopqrstuvwxyz"
MOST_LETTERS = 8


def is_name(word):
    """Tell whether a word is one to eight letters from a to z."""
    if not isinstance(word, str):
        return False
    return 1 <= len(word) <= MOST_LETTERS and all([letter in LETTERS for letter in word])


def check_name(word):
    """Raise InvalidName for a word that is no name."""
    if not is_name(word):
        raise InvalidName(word)
