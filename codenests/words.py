"""What is a word, and what is a number, among values of any kind."""

LETTERS = "abcdefghijklmnopqrstuvwxyz"
DIGITS = "0123456789"
LONGEST_WORD = 12


def is_word(value):
    """Whether value, which may be anything, is a word."""
    if not isinstance(value, str) or not 1 <= len(value) <= LONGEST_WORD:
        return False
    if value[0] not in LETTERS:
        return False
    return all([sign in LETTERS or sign in DIGITS for sign in value])


def is_number(value):
    """Whether value, which may be anything, is an integer of at least 0."""
    # True and False are integers to Python, but not to the document.
    return isinstance(value, int) and not isinstance(value, bool) and value >= 0
