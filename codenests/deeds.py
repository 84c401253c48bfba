"""Deeds: each exchanges one code of a nest for another one that fits there."""

from codenests.codes import code_fault, is_within
from codenests.errors import BadDeed, NoLevel
from codenests.meets import between_codes
from codenests.nests import Nest, is_level


def is_deed(nest, value):
    """Whether value, which may be anything, is a deed that can be done."""
    ground = nest.ground()
    if not isinstance(value, tuple) or len(value) != 2:
        return False
    level, code = value
    if not is_level(ground, level) or code_fault(ground, code) is not None:
        return False
    if len(code) != level or code == nest.code(level):
        return False
    return is_within(ground, nest.code(level - 1), code) and is_within(ground, code, nest.code(level + 1))


def done(nest, deed):
    """The nest to which a deed leads."""
    if not is_deed(nest, deed):
        raise BadDeed(0)
    level, code = deed
    codes = nest.codes()
    codes[level - 1] = code
    return Nest(nest.ground(), codes)


def taken_back(nest, deed):
    """The deed that leads back from where a deed leads from a nest."""
    if not is_deed(nest, deed):
        raise BadDeed(0)
    level, _ = deed
    return level, nest.code(level)


def deeds_at(nest, level):
    """The list of all deeds at a level, ascending by their codes."""
    if not is_level(nest.ground(), level):
        raise NoLevel(level)
    fitting = between_codes(nest.ground(), nest.code(level - 1), nest.code(level + 1))
    return [(level, code) for code in fitting if code != nest.code(level)]


def all_deeds(nest):
    """The list of all deeds, level by level."""
    deeds = []
    for level in range(1, nest.ground().n()):
        deeds.extend(deeds_at(nest, level))
    return deeds
