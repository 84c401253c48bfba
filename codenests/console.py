"""Consoles: what is said to a house in lines, and what it answers."""

from codenests.differences import order_of
from codenests.errors import BadAct, BadText, NoLevel, NothingDone, UnknownName
from codenests.printer import code_text, deed_text
from codenests.reader import Cursor, code_from, items_from


def nothing_more(cursor):
    """No members: the word stands alone."""
    return ()


def number_more(cursor):
    """One member, the number that comes next."""
    return (cursor.take_number(),)


def name_more(cursor):
    """One member, the word that comes next."""
    return (cursor.take_word(),)


def code_more(cursor):
    """One member, the tuple of the rows that come next."""
    return (code_from(cursor),)


def deed_more(cursor):
    """Two members, the number and the code that come next."""
    return cursor.take_number(), code_from(cursor)


def codes_more(cursor):
    """One member: the tuple of the codes in the braces that come next, or None."""
    return (tuple(items_from(cursor, code_from)) if cursor.sees("{") else None,)


FORMS = {"put": deed_more, "nail": number_more, "free": number_more, "goal": codes_more, "lead": code_more,
         "turn": nothing_more, "undo": nothing_more, "redo": nothing_more, "keep": name_more, "show": nothing_more,
         "left": nothing_more, "paid": nothing_more, "order": nothing_more, "way": nothing_more,
         "nails": nothing_more, "at": number_more, "to": name_more}


def told_by(line):
    """What a line tells: the tuple of its first word and of what comes behind it."""
    cursor = Cursor(line)
    place = cursor.here()
    word = cursor.take_word()
    if word not in FORMS:
        raise BadText(place)
    more = FORMS[word]
    told = (word,) + more(cursor)
    cursor.finish()
    return told


def told_or_none(value):
    """A value as it is told, None as a word."""
    return "none" if value is None else str(value)


def act_answer(house, told):
    """The number of done acts, behind the act that is told."""
    return str(house.do(told))


def undo_answer(house, told):
    """The number of done acts, behind undoing the last one."""
    return str(house.undo())


def redo_answer(house, told):
    """The number of done acts, behind doing the first undone one again."""
    return str(house.redo())


def keep_answer(house, told):
    """The number of marks, behind keeping the nest under the name that is told."""
    house.keep(told[1])
    return str(len(house.marks()))


def show_answer(house, told):
    """The codes of the nest."""
    return "; ".join([code_text(code) for code in house.nest().codes()])


def left_answer(house, told):
    """What is left."""
    return told_or_none(house.left())


def paid_answer(house, told):
    """What was paid."""
    return str(house.paid())


def order_answer(house, told):
    """The order of the nest and the goal."""
    if house.goal() is None:
        return told_or_none(None)
    return ", ".join([str(number) for number in order_of(house.nest(), house.goal())])


def way_answer(house, told):
    """The deeds of some fewest way to the goal."""
    if house.goal() is None:
        return told_or_none(None)
    return "; ".join([deed_text(deed) for deed in house.way()])


def nails_answer(house, told):
    """The nailed levels."""
    return ", ".join([str(level) for level in house.nails()])


def at_answer(house, told):
    """The code of the nest with the number that is told."""
    return code_text(house.nest().code(told[1]))


def to_answer(house, told):
    """The fewest deeds to the mark that is told."""
    return str(house.deeds_to(told[1]))


ANSWERS = {"put": act_answer, "nail": act_answer, "free": act_answer, "goal": act_answer, "lead": act_answer,
           "turn": act_answer, "undo": undo_answer, "redo": redo_answer, "keep": keep_answer, "show": show_answer,
           "left": left_answer, "paid": paid_answer, "order": order_answer, "way": way_answer,
           "nails": nails_answer, "at": at_answer, "to": to_answer}


class Console:
    """Speaks for a house."""

    def __init__(self, house):
        self._house = house

    def house(self):
        """The house for which it speaks."""
        return self._house

    def say(self, line):
        """Do what a line says, and return the answer."""
        try:
            told = told_by(line)
            answer = ANSWERS[told[0]]
            return answer(self._house, told)
        except BadText as unread:
            return "no BadText " + str(unread.place)
        except BadAct as refused:
            return "no BadAct " + refused.word
        except NothingDone:
            return "no NothingDone"
        except NoLevel:
            return "no NoLevel"
        except UnknownName:
            return "no UnknownName"

    def __eq__(self, other):
        return isinstance(other, Console) and self._house == other._house
