"""Kinds: the text, and functions from a kind to a kind."""

from oneuseheads.errors import BadKind, BadKinds

TEXT = ("text",)
MOST_ENDS = 60


def is_kind(value):
    """Whether value is a kind."""
    ends = 0
    pending = [value]
    while pending:
        part = pending.pop()
        if part == TEXT:
            ends += 1
        elif isinstance(part, tuple) and len(part) == 3 and part[0] == "to":
            pending.append(part[2])
            pending.append(part[1])
        else:
            return False
        # What is pending has an end each, so values that share parts do not take long.
        if ends + len(pending) > MOST_ENDS:
            return False
    return True


def need_kind(kind):
    """Raises BadKind unless kind is a kind."""
    if not is_kind(kind):
        raise BadKind("this is no kind")


def need_function_kind(kind):
    """Raises BadKind unless kind is that of a function."""
    need_kind(kind)
    if kind == TEXT:
        raise BadKind("this is no kind of a function")


def arguments(kind):
    """The tuple of the kinds of what a thing of this kind is handed."""
    need_kind(kind)
    return arguments_of(kind)


def arguments_of(kind):
    """The arguments of what is known to be a kind."""
    found = []
    rest = kind
    while rest != TEXT:
        found.append(rest[1])
        rest = rest[2]
    return tuple(found)


def kind_from(arguments):
    """The kind with these arguments."""
    if not isinstance(arguments, (list, tuple)) or not all([is_kind(kind) for kind in arguments]):
        raise BadKinds("this is no list of kinds")
    if sum([count_ends(kind) for kind in arguments]) + 1 > MOST_ENDS:
        raise BadKind("the kind would have too many ends")
    come = TEXT
    for kind in reversed(arguments):
        come = ("to", kind, come)
    return come


def ends_in(kind):
    """How many ends kind has."""
    need_kind(kind)
    return count_ends(kind)


def count_ends(kind):
    """How many ends there are in what is built as kinds are, be it too great for one."""
    ends = 0
    pending = [kind]
    while pending:
        part = pending.pop()
        if part == TEXT:
            ends += 1
        else:
            pending.append(part[1])
            pending.append(part[2])
    return ends


def order(kind):
    """How deep the functions are nested that are handed on: 0 for a text."""
    need_kind(kind)
    return _order(kind)


def _order(kind):
    if kind == TEXT:
        return 0
    return 1 + max([_order(part) for part in arguments_of(kind)])
