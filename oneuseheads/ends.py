"""The ends of a kind: their signs, and which of them are parts of which."""

from oneuseheads.errors import BadEnd
from oneuseheads.kinds import TEXT, need_kind
from oneuseheads.plain import is_whole


def end_rows(kind):
    """A list of triples, one for each end: whether it is asked, the tuple of its parts, the kind whose result it is."""
    rows = []
    _add_rows(kind, True, rows)
    return rows


def _add_rows(kind, asked, rows):
    """Adds to rows those of the ends of kind, which stands where its result is asked or giving."""
    found = []
    rest = kind
    while rest != TEXT:
        _add_rows(rest[1], not asked, rows)
        found.append(len(rows) - 1)
        rest = rest[2]
    rows.append((asked, tuple(found), kind))


def signs(kind):
    """The tuple with True for each asked end of kind and False for each giving one."""
    need_kind(kind)
    return tuple([row[0] for row in end_rows(kind)])


def parts(kind):
    """The dict from each end of kind to the tuple of its parts."""
    need_kind(kind)
    return {end: row[1] for end, row in enumerate(end_rows(kind))}


def keeper(kind, end):
    """The end of which this end of kind is a part, None for the result."""
    found = parts(kind)
    if not is_whole(end) or end not in found:
        raise BadEnd("this is no end of the kind")
    for other in found:
        if end in found[other]:
            return other
    return None
