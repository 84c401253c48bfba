"""Powers, and numbers written as rows of digits."""


def power(base, exponent):
    """The product of as many times base as exponent tells."""
    worth = 1
    for _ in range(exponent):
        worth = worth * base
    return worth


def digits_at(base, many, number):
    """The digits of number, as many as asked for, the last one for the units."""
    digits = []
    left = number
    for _ in range(many):
        digits.append(left % base)
        left = left // base
    digits.reverse()
    return tuple(digits)


def digits_number(base, digits):
    """The number that has these digits, the last one for the units."""
    number = 0
    for digit in digits:
        number = number * base + digit
    return number
