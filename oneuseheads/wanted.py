"""What kinds are wanted at the places of a wording that is read.

A want is a pair (bounds, tail): a kind that, after as many arguments of any kind as there are bounds but one, is the
kind tail, or any kind if tail is None. Each of bounds tells how many ends the kind may have at most, then the kind
without its first argument, and so on.
"""

from oneuseheads.kinds import MOST_ENDS, TEXT, count_ends


def want_of(kind):
    """The want of a kind, or of any one if kind is None."""
    return (MOST_ENDS,), kind


def fits_want(want, kind):
    """Whether kind is wanted."""
    bounds, tail = want
    ends = count_ends(kind)
    rest = kind
    for bound in bounds[:-1]:
        if ends > bound or rest == TEXT:
            return False
        ends -= count_ends(rest[1])
        rest = rest[2]
    return ends <= bounds[-1] and (tail is None or rest == tail)


def wants_text(want):
    """Whether a text is wanted."""
    bounds, tail = want
    return len(bounds) == 1 and (tail is None or tail == TEXT)


def _least_ends(want):
    """How many ends a kind that is wanted has at least."""
    bounds, tail = want
    return len(bounds) - 1 + (1 if tail is None else count_ends(tail))


def wants_call(want):
    """Whether there is a kind for what is called, if a call is wanted."""
    return _least_ends(want) < MOST_ENDS


def want_to_call(want):
    """What is wanted of what is called."""
    bounds, tail = want
    return (MOST_ENDS, *bounds), tail


def wants_fun(want):
    """Whether a function is wanted."""
    bounds, tail = want
    if len(bounds) > 1:
        return True
    return bounds[0] > 1 if tail is None else tail != TEXT


def bound_by(want):
    """The kind of what a function that is wanted binds, None for any; and how many ends it may have at most."""
    bounds, tail = want
    if len(bounds) == 1 and tail is not None:
        return tail[1], MOST_ENDS
    # All behind it have one end at least.
    rest = _least_ends(want) - 1 if len(bounds) > 1 else 1
    return None, bounds[0] - rest


def want_within(want, kind):
    """What is wanted of the body of a function that is wanted, if this is the kind of what it binds."""
    bounds, tail = want
    if len(bounds) > 1:
        most, next_most, *others = bounds
        return (min(next_most, most - count_ends(kind)), *others), tail
    if tail is None:
        return (bounds[0] - count_ends(kind),), None
    return want_of(tail[2])
