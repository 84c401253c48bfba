"""Values of all kinds that the document lets callers pass as anything."""

from codenests.grounds import Ground


def deep(inner, depth=40):
    """A value nested so deep, by turns in tuples, lists and dicts."""
    for level in range(depth):
        inner = ((inner,), [inner], {"a": inner}, (inner, 0))[level % 4]
    return inner


def no_integers():
    """Values that are no integers, made anew at each call."""
    return [
        True, False, None, "", "2", "abc", " ", "a\n", (), (2,), (2, 3), ((),), ((2, 3),), [], [2], [[]],
        [(2,)], {}, {"a": 1}, {2: 3}, {(1, 2): [3]}, deep(1), deep(()), [deep(2)], Ground(2, 3), [Ground(3, 0)],
    ]


GREAT = 10 ** 40 - 1

NEGATIVE = [-1, -2, -3, -7, -GREAT]
