"""How texts are read: grounds, rows, codes, nests, partial nests and scripts."""

from codenests.codes import check_code
from codenests.errors import BadText
from codenests.grounds import Ground
from codenests.lexemes import scanned
from codenests.nests import Nest
from codenests.parts import Part
from codenests.rows import check_row


class Cursor:
    """Goes through the lexemes of a text, as long as each fits the form.

    Every form can be completed from each place that is reached, so the first
    lexeme that does not fit there is the first wrong one.
    """

    def __init__(self, text):
        found, wrong = scanned(text)
        self._found = found
        self._at = 0
        self._is_scanned = wrong is None
        self._end = len(text) if wrong is None else wrong

    def here(self):
        """The place of the next lexeme; behind the last one, where the text fails."""
        if self._at == len(self._found):
            return self._end
        _, _, place = self._found[self._at]
        return place

    def sees(self, lexeme):
        """Whether the next lexeme is this word or sign."""
        return self._at < len(self._found) and self._found[self._at][1] == lexeme

    def take(self, lexeme):
        """Go on behind the next lexeme, which must be this word or sign."""
        if not self.sees(lexeme):
            raise BadText(self.here())
        self._at += 1

    def take_sort(self, sort):
        """Go on behind the next lexeme, which must be of this sort; return it."""
        if self._at == len(self._found) or self._found[self._at][0] != sort:
            raise BadText(self.here())
        self._at += 1
        return self._found[self._at - 1][1]

    def take_number(self):
        """Go on behind the next lexeme, which must be a number; return it."""
        return int(self.take_sort("number"))

    def take_word(self):
        """Go on behind the next lexeme, which must be a word; return it."""
        return self.take_sort("word")

    def finish(self):
        """Make sure that nothing is left."""
        if self._at < len(self._found) or not self._is_scanned:
            raise BadText(self.here())


def number_from(cursor):
    """The number that comes next."""
    return cursor.take_number()


def listed(cursor, opening, closing, member_from):
    """The members that come next, between two signs and with commas."""
    cursor.take(opening)
    members = []
    while not cursor.sees(closing):
        if len(members) > 0:
            cursor.take(",")
        members.append(member_from(cursor))
    cursor.take(closing)
    return tuple(members)


def row_from(cursor):
    """The row that comes next, as a tuple of numbers."""
    return listed(cursor, "(", ")", number_from)


def code_from(cursor):
    """The code that comes next, as a tuple of tuples of numbers."""
    return listed(cursor, "[", "]", row_from)


def deed_from(cursor):
    """The number and the code that come next."""
    level = cursor.take_number()
    return level, code_from(cursor)


def items_from(cursor, item_from):
    """The list of what the braces hold that come next."""
    cursor.take("{")
    items = []
    while not cursor.sees("}"):
        items.append(item_from(cursor))
        cursor.take(";")
    cursor.take("}")
    return items


def block_from(cursor, word, item_from):
    """The list of what the braces hold behind the word that comes next."""
    cursor.take(word)
    return items_from(cursor, item_from)


def read_ground(text):
    """The ground that a text tells."""
    cursor = Cursor(text)
    cursor.take("ground")
    p = cursor.take_number()
    n = cursor.take_number()
    cursor.take(";")
    cursor.finish()
    return Ground(p, n)


def read_row(ground, text):
    """The row that a text tells."""
    cursor = Cursor(text)
    row = row_from(cursor)
    cursor.finish()
    check_row(ground, row)
    return row


def read_code(ground, text):
    """The code that a text tells."""
    cursor = Cursor(text)
    code = code_from(cursor)
    cursor.finish()
    check_code(ground, code)
    return code


def read_nest(ground, text):
    """The nest that a text tells."""
    cursor = Cursor(text)
    codes = block_from(cursor, "nest", code_from)
    cursor.finish()
    return Nest(ground, codes)


def read_part(ground, text):
    """The partial nest that a text tells."""
    cursor = Cursor(text)
    codes = block_from(cursor, "part", code_from)
    cursor.finish()
    return Part(ground, codes)


def read_script(text):
    """The list of the deeds that a text tells, whether or not they can be done."""
    cursor = Cursor(text)
    deeds = block_from(cursor, "script", deed_from)
    cursor.finish()
    return deeds
