"""Lexemes: the words, the numbers and the signs of which texts are made."""

from codenests.errors import BadText
from codenests.words import DIGITS, LETTERS, LONGEST_WORD

SIGNS = "()[]{},;"
BETWEEN = " \n"


def run_end(text, start, signs):
    """The first place from start on at which none of the signs stands."""
    end = start
    while end < len(text) and text[end] in signs:
        end += 1
    return end


def lexeme_at(text, place):
    """The sort and the end of the lexeme that begins at a place, or None."""
    sign = text[place]
    if sign in SIGNS:
        return "sign", place + 1
    if sign == "0":
        return "number", place + 1
    if sign in DIGITS:
        return "number", run_end(text, place, DIGITS)
    if sign in LETTERS:
        end = run_end(text, place, LETTERS + DIGITS)
        if end - place <= LONGEST_WORD:
            return "word", end
    return None


def scanned(text):
    """The lexemes up to the first character that begins none, and its place.

    The place is None if there is no such character.
    """
    found = []
    place = 0
    while place < len(text):
        if text[place] in BETWEEN:
            place += 1
            continue
        begun = lexeme_at(text, place)
        if begun is None:
            return found, place
        sort, end = begun
        found.append((sort, text[place:end], place))
        place = end
    return found, None


def lexemes(text):
    """The list of the lexemes of a string: tuples (sort, lexeme, place)."""
    found, wrong = scanned(text)
    if wrong is not None:
        raise BadText(wrong)
    return found
