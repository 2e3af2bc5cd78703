"""Bare terms: terms without puts and ends whose funs do not tell kinds."""

from oneuseheads.errors import BadBare, BadTerm
from oneuseheads.kinds import TEXT
from oneuseheads.plain import name_in_row
from oneuseheads.reducing import reduced
from oneuseheads.terms import INSIDE, MOST_ROW, need_term, parts_in, weighed


def is_bare(value):
    """Whether value is a bare term."""
    return weighed(value, MOST_ROW, True) is not None


def bared(term):
    """The bare term in which the funs of term do not tell their kinds."""
    need_term(term)
    if any([part[0] in ("put", "end") for _, part in parts_in(term)]):
        raise BadTerm("in this term stands a put or an end")
    return _bared(term)


def _bared(term):
    if term[0] == "fun":
        return ("fun", term[1], _bared(term[3]))
    if term[0] == "call":
        return ("call", _bared(term[1]), _bared(term[2]))
    return term


def need_closed_bare(bare):
    """Raises BadBare unless bare is a bare term without free names."""
    weights = weighed(bare, MOST_ROW, True)
    if weights is None or weights[1] != ():
        raise BadBare("this is no closed bare term")


def bare_normal(bare):
    """The normal form to which doing calls leads, what its funs bind being called a, b, .. in their order."""
    need_closed_bare(bare)
    return _named_in_order(reduced(_dressed(bare)))


def _dressed(bare):
    """The bare term with some kind at each fun, so that calls in it can be done; it need not have a kind itself."""
    if bare[0] == "fun":
        return ("fun", bare[1], TEXT, _dressed(bare[2]))
    if bare[0] == "call":
        return ("call", _dressed(bare[1]), _dressed(bare[2]))
    return bare


def _named_in_order(term):
    """The bare term in which what the funs of a closed term bind is called by the row of names."""
    parts = parts_in(term)
    funs = [(path, part[1]) for path, part in parts if part[0] == "fun"]
    bound = {path: (name, name_in_row(at)) for at, (path, name) in enumerate(funs)}
    # The term may have more nodes in a row than a term, so its parts are put together from the innermost ones on.
    come = {}
    for path, part in reversed(parts):
        paths_inside = [(*path, index) for index in INSIDE[part[0]]]
        inside = [come[inner] for inner in paths_inside]
        if part[0] == "name":
            come[path] = ("name", _name_at(path, part[1], bound))
        elif part[0] == "fun":
            come[path] = ("fun", bound[path][1], *inside)
        else:
            come[path] = ("call", *inside)
    return come[()]


def _name_at(path, name, bound):
    """How what this name stands for is called, bound telling of the path of each fun its own name and the new one."""
    depth = len(path) - 1
    while bound.get(path[:depth], ("", ""))[0] != name:
        depth -= 1
    return bound[path[:depth]][1]
