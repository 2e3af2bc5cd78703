"""Surroundings of terms, what is written in them, and surroundings that part two terms with unlike tables."""

from oneuseheads.ends import end_rows
from oneuseheads.errors import BadSurroundings, BadTerm, TooMany
from oneuseheads.kinds import TEXT, need_kind
from oneuseheads.plain import ALPHABET, name_in_row
from oneuseheads.tables import by_end, table
from oneuseheads.terms import MOST_ROW, exchanged, free_place, is_closed_of, is_term, kind_within, need_term, row_in

PLACE = "h"


def is_surroundings(kind, value):
    """Whether value are surroundings of kind."""
    need_kind(kind)
    return _are_surroundings(kind, value)


def _are_surroundings(kind, value):
    return is_term(value) and kind_within(value, {PLACE: kind}) == TEXT


def put_in(kind, surroundings, term):
    """The surroundings with term in their place."""
    need_kind(kind)
    if not _are_surroundings(kind, surroundings):
        raise BadSurroundings("these are no surroundings of the kind")
    _need_closed_of(kind, term)
    path = free_place(surroundings, PLACE)
    come = surroundings if path is None else exchanged(surroundings, path, term)
    need_term(come)
    return come


def _need_closed_of(kind, term):
    if not is_closed_of(kind, term):
        raise BadTerm("this is no closed term of the kind")


def written_in(kind, surroundings, term):
    """The text that is written if term is put in."""
    # By walks, as the term may have any number of nodes in a row on the way.
    links = table(put_in(kind, surroundings, term))
    return links[0][1]


def parted(kind, one, other):
    """Surroundings in which two terms write unlike texts, None if there are none."""
    need_kind(kind)
    _need_closed_of(kind, one)
    _need_closed_of(kind, other)
    rows = end_rows(kind)
    ones, others = by_end(table(one)), by_end(table(other))
    way = _way_to_unlike(rows, ones, others)
    if way is None:
        return None
    for marked in _ends_to_mark(ones[way[-1]], others[way[-1]]):
        parter = Parter(rows, ones, way, marked)
        come = ("name", PLACE)
        for part in rows[-1][1]:
            come = ("call", come, parter.thing(part))
        if row_in(come) <= MOST_ROW:
            return come
    raise TooMany(MOST_ROW)


def _ends_to_mark(link, other):
    """The goals at one of which a letter is put so that unlike pairs of words and goals write unlike texts.

    Unlike words tell the two apart by themselves, where nothing more is written.
    """
    if link[0] != other[0]:
        return [None]
    return [goal for goal in (other[1], link[1]) if goal is not None]


def _way_to_unlike(rows, ones, others):
    """The asked ends, each within the reading of the one ahead, that lead from the result to the first unlike links.

    None if all links are alike.
    """
    pending = [(len(rows) - 1,)]
    while pending:
        way = pending.pop()
        end = way[-1]
        if ones[end] != others[end]:
            return way
        goal = ones[end][1]
        if goal is not None:
            pending.extend([(*way, part) for part in reversed(rows[goal][1])])
    return None


class Parter:
    """Makes the things that lead a table along a way, and write a letter where it goes to the end that is marked."""

    def __init__(self, rows, links, way, marked):
        self._rows = rows
        self._leads = {links[end][1]: inner for end, inner in zip(way, way[1:])}
        self._marked = marked

    def thing(self, end):
        """The thing for a giving end, a function of its parts: it uses the one that leads on, or writes a text."""
        come = ("end",)
        if end == self._marked:
            come = ("put", ALPHABET[0], come)
        if end in self._leads:
            inner = self._leads[end]
            come = ("name", self._name(inner))
            for part in self._rows[inner][1]:
                come = ("call", come, self.thing(part))
        for part in reversed(self._rows[end][1]):
            come = ("fun", self._name(part), self._rows[part][2], come)
        return come

    def _name(self, end):
        """How an end is called: by two letters, so that it is never called as the place is."""
        return name_in_row(len(ALPHABET) + end)
