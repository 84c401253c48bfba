"""Scripts: lists of deeds that can be done one after another."""

from codenests.deeds import done, is_deed, taken_back
from codenests.errors import BadDeed


def steps(nest, script):
    """The nest, and the nest behind each deed of a script."""
    nests = [nest]
    for k, deed in enumerate(script):
        if not is_deed(nests[-1], deed):
            raise BadDeed(k)
        nests.append(done(nests[-1], deed))
    return nests


def walked(nest, script):
    """The nest to which a script leads."""
    return steps(nest, script)[-1]


def turned_back(nest, script):
    """The deeds that lead back from where a script leads from a nest."""
    back = [taken_back(at, deed) for at, deed in zip(steps(nest, script), script)]
    back.reverse()
    return back


def first_bad(nest, value):
    """The number of the first member that cannot be done; None for a script.

    It is 0 if value, which may be anything, is neither a list nor a tuple.
    """
    if not isinstance(value, (list, tuple)):
        return 0
    try:
        steps(nest, value)
    except BadDeed as bad:
        return bad.number
    return None


def levels_of(script):
    """The list of the levels of a script."""
    return [level for level, _ in script]
