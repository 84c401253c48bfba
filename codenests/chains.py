"""Chains of codes, each of them within the next one: what is wrong in one."""

from codenests.codes import code_fault, is_within


def chain_fault(ground, codes, most):
    """The path of the first wrong part of a list as a chain, None if all is right.

    Each code contains the one before it, and has a rank that is greater by at
    least 1 and at most what most tells; none is the code of all rows. The
    first code goes up from the code of the zero row.
    """
    below = ()
    for k, code in enumerate(codes):
        path = code_fault(ground, code)
        if path is not None:
            return (k,) + path
        if not 1 <= len(code) - len(below) <= most or len(code) == ground.n():
            return (k,)
        if not is_within(ground, below, code):
            return (k,)
        below = code
    return None
