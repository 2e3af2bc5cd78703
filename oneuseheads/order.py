"""Terms that use things in the order in which they are bound, and tables whose links do not cross."""

from oneuseheads.errors import BadTerm
from oneuseheads.kinds import TEXT, count_ends, need_kind
from oneuseheads.programs import need_program
from oneuseheads.tables import need_table
from oneuseheads.terms import is_closed


def is_ordered(term):
    """Whether a closed term is order-keeping."""
    if not is_closed(term):
        raise BadTerm("this is no closed term")
    return _uses(term) is not None


def is_ordered_program(program):
    """Whether all steps of program are order-keeping."""
    need_program(program)
    return all([_uses(step) is not None for _, step in program[3]])


def _uses(term):
    """The tuple of the free names of term as they are used, None where what a fun binds is used, but not last."""
    word = term[0]
    if word == "name":
        return (term[1],)
    if word == "call":
        one, other = _uses(term[1]), _uses(term[2])
        return None if one is None or other is None else one + other
    if word == "put":
        return _uses(term[2])
    if word == "end":
        return ()
    found = _uses(term[3])
    if found is None or term[1] not in found:
        return found
    return found[:-1] if found[-1] == term[1] else None


def line(kind):
    """The list of the ends of kind in the order of its line."""
    need_kind(kind)
    return _line(kind, 0)


def _line(kind, first):
    """The line of a kind whose ends are numbered from first on."""
    if kind == TEXT:
        return [first]
    return _line(kind[1], first)[::-1] + _line(kind[2], first + count_ends(kind[1]))


def crossing(kind, table):
    """The least pair of links of a table that cross, None if none do."""
    need_kind(kind)
    need_table(kind, table)
    places = {end: at for at, end in enumerate(_line(kind, 0))}
    links = [(end, goal) for end, _, goal in table if goal is not None]
    for at, one in enumerate(links):
        for other in links[at + 1:]:
            if _cross(places, one, other):
                return one, other
    return None


def _cross(places, one, other):
    """Whether just one end of the other link stands between both ends of the one."""
    low, high = sorted([places[end] for end in one])
    return len([end for end in other if low < places[end] < high]) == 1
