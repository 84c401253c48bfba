"""Grounds: a prime together with a number of columns."""

from codenests.errors import BadGround
from codenests.words import is_number


def is_prime(value):
    """Whether value, which may be anything, is a prime."""
    if not is_number(value) or value < 2:
        return False
    divisor = 2
    while divisor * divisor <= value:
        if value % divisor == 0:
            return False
        divisor += 1
    return True


class Ground:
    """The rows of n numbers modulo the prime p; it never changes."""

    def __init__(self, p, n):
        if not is_prime(p):
            raise BadGround((0,))
        if not is_number(n):
            raise BadGround((1,))
        self._p = p
        self._n = n

    def p(self):
        """The prime."""
        return self._p

    def n(self):
        """The number of columns."""
        return self._n

    def zero(self):
        """The row with the entry 0 everywhere."""
        return (0,) * self._n

    def units(self):
        """The tuple of the unit rows."""
        columns = range(self._n)
        return tuple([tuple([1 if column == k else 0 for column in columns]) for k in columns])

    def inverse_of(self, number):
        """The number whose product with number is 1, or None for 0."""
        if number == 0:
            return None
        # At each turn left is a multiple of the prime plus factor * number,
        # and so is other with other_factor. At the end left is 1.
        left, other = self._p, number
        factor, other_factor = 0, 1
        while other > 0:
            times = left // other
            left, other = other, left - times * other
            factor, other_factor = other_factor, factor - times * other_factor
        return factor % self._p

    def __eq__(self, other):
        return isinstance(other, Ground) and self._p == other._p and self._n == other._n
