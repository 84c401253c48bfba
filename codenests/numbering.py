"""Nests told by normal orders and digits, and by numbers."""

from codenests.counting import count_nests, step_product
from codenests.differences import order_of, paper_of
from codenests.errors import BadRow, TooGreat
from codenests.frames import codes_along
from codenests.leading import led
from codenests.maps import turned_back
from codenests.nests import Nest, shared_ground, standard
from codenests.orders import check_order
from codenests.powers import digits_at, digits_number, power
from codenests.rows import is_number_of, scaled
from codenests.squares import cleared


def normal_order(nest):
    """The normal order of a nest: that of it and the standard nest."""
    return order_of(nest, standard(nest.ground()))


def normal_rows(nest):
    """The list of the normal rows of a nest."""
    ground = nest.ground()
    order, frame = paper_of(nest, standard(ground))
    rows = []
    for row, column in zip(frame, order):
        # Each row of the frame ends in its column; those of earlier rows that
        # come before it are cleared from the last one to the first.
        left = scaled(ground, ground.inverse_of(row[column]), row)
        for earlier in reversed(range(column)):
            if earlier in order[:len(rows)]:
                left = cleared(ground, left, rows[order.index(earlier)], earlier)
        rows.append(left)
    return rows


def digit_places(order):
    """The pairs of a normal row and a column at which digits stand.

    The order may also be the beginning of one.
    """
    return [(i, column) for i, end in enumerate(order) for column in range(end) if column not in order[:i]]


def digits(nest):
    """The list of the digits of a nest."""
    rows = normal_rows(nest)
    return [rows[i][column] for i, column in digit_places(normal_order(nest))]


def digits_fault(ground, many, value):
    """The path of the first wrong part of value as so many digits, or None."""
    if not isinstance(value, (list, tuple)) or len(value) != many:
        return ()
    for k, digit in enumerate(value):
        if not is_number_of(ground, digit):
            return (k,)
    return None


def nest_of(ground, order, value):
    """The nest with this normal order and these digits; both may be anything."""
    check_order(ground.n(), order)
    places = digit_places(order)
    path = digits_fault(ground, len(places), value)
    if path is not None:
        raise BadRow(path)
    units = ground.units()
    rows = [list(units[column]) for column in order]
    for (i, column), digit in zip(places, value):
        rows[i][column] = digit
    return Nest(ground, codes_along(ground, [tuple(row) for row in rows]))


def nest_off(nest, order, value):
    """The nest that is off a nest by an order and digits; both may be anything."""
    return led(nest_of(nest.ground(), order, value), tuple(normal_rows(nest)))


def off(nest, other):
    """The order and the digits by which other is off nest."""
    ground = shared_ground([nest, other])
    moved = led(other, turned_back(ground, tuple(normal_rows(nest))))
    return normal_order(moved), tuple(digits(moved))


def count_begun(ground, begun):
    """How many nests have normal orders that begin so."""
    return power(ground.p(), len(digit_places(begun))) * step_product(ground, ground.n() - len(begun))


def continued(ground, begun):
    """The beginnings of orders that go on with one number, ascending."""
    return [begun + (column,) for column in range(ground.n()) if column not in begun]


def order_at(ground, number):
    """The normal order of the nest with this number, and a second number.

    This one is how many nests with the same normal order come before it.
    """
    begun = ()
    left = number
    while len(begun) < ground.n():
        for longer in continued(ground, begun):
            many = count_begun(ground, longer)
            if left < many:
                begun = longer
                break
            left = left - many
    return begun, left


def nest_at(ground, number):
    """The nest with this number."""
    if number >= count_nests(ground):
        raise TooGreat()
    order, left = order_at(ground, number)
    return nest_of(ground, order, digits_at(ground.p(), len(digit_places(order)), left))


def number_of(nest):
    """How many nests come before a nest."""
    ground = nest.ground()
    order = normal_order(nest)
    number = digits_number(ground.p(), digits(nest))
    for i, column in enumerate(order):
        before = [longer for longer in continued(ground, order[:i]) if longer[i] < column]
        number = number + sum([count_begun(ground, longer) for longer in before])
    return number


def next_nest(nest):
    """The nest with the next number, or None behind the last one."""
    number = number_of(nest) + 1
    return None if number == count_nests(nest.ground()) else nest_at(nest.ground(), number)


def nests_from(ground, *, number=0, many=10):
    """The list of the nests from a number on, as many as asked for, if there are."""
    end = min(number + many, count_nests(ground))
    return [nest_at(ground, k) for k in range(number, end)]


def drawn(ground, number):
    """The nest to which a number of any size leads."""
    return nest_at(ground, number % count_nests(ground))
