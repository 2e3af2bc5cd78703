"""Which kinds bare terms can have, and which bare terms have them."""

from oneuseheads.bare import need_closed_bare
from oneuseheads.errors import BadKind, BadKinds, BadPattern, TooMany
from oneuseheads.kinds import MOST_ENDS, TEXT, count_ends, is_kind, need_kind
from oneuseheads.patterns import Asked, is_right_pattern, last_end, signed_ends
from oneuseheads.plain import name_in_row
from oneuseheads.terms import MOST_ROW, weighed


def is_pattern(value):
    """Whether value is a pattern."""
    return is_right_pattern(value)


def _need_pattern(pattern):
    if not is_right_pattern(pattern):
        raise BadPattern("this is no pattern")


def filled(pattern, kinds):
    """The kind that comes of a pattern if these kinds are put for its ends."""
    _need_pattern(pattern)
    ends = [number for _, number in signed_ends(pattern)]
    many = max(ends) + 1
    if not isinstance(kinds, (list, tuple)) or len(kinds) != many or not all([is_kind(kind) for kind in kinds]):
        raise BadKinds("these are not the kinds that this pattern wants")
    if sum([count_ends(kinds[number]) for number in ends]) > MOST_ENDS:
        raise BadKind("the kind would have too many ends")
    return _filled(pattern, kinds)


def _filled(pattern, kinds):
    if pattern[0] == "any":
        return kinds[pattern[1]]
    return ("to", _filled(pattern[1], kinds), _filled(pattern[2], kinds))


def fits(pattern, kind):
    """The tuple of the kinds with which kind comes of a pattern, None if it does not come of it."""
    _need_pattern(pattern)
    need_kind(kind)
    return _fits(pattern, kind)


def _fits(pattern, kind):
    found = {}
    pending = [(pattern, kind)]
    while pending:
        part, told = pending.pop()
        if part[0] == "any":
            if found.setdefault(part[1], told) != told:
                return None
        elif told == TEXT:
            return None
        else:
            pending.extend([(part[1], told[1]), (part[2], told[2])])
    return tuple([found[number] for number in sorted(found)])


def principal(bare):
    """The pattern of which all kinds come that a closed bare term can have."""
    need_closed_bare(bare)
    asked = Asked()
    kind, _ = _asked_of(bare, {}, asked)
    return asked.pattern(kind)


def _asked_of(bare, names, asked):
    """The number of the kind of a bare term, names telling those of names; and the bare term with its numbers.

    That is a tuple with the number of the kind of each part behind it; a fun has that of what it binds, too.
    """
    if bare[0] == "name":
        number = names[bare[1]]
        return number, (*bare, number)
    if bare[0] == "fun":
        _, name, inner = bare
        bound = asked.opened()
        result, body = _asked_of(inner, {**names, name: bound}, asked)
        kind = asked.function(bound, result)
        return kind, ("fun", name, bound, body, kind)
    caller, one = _asked_of(bare[1], names, asked)
    handed, other = _asked_of(bare[2], names, asked)
    result = asked.opened()
    # Names are used once, so what is called is never asked to be its own part.
    asked.make_same(caller, asked.function(handed, result))
    return result, ("call", one, other, result)


def dressed(bare, kind):
    """The term of kind in which each fun of a bare term tells a kind, None if kind does not come of its pattern."""
    need_closed_bare(bare)
    need_kind(kind)
    asked = Asked()
    found, numbered = _asked_of(bare, {}, asked)
    if _fits(asked.pattern(found), kind) is None:
        return None
    asked.make_same(found, asked.known(kind))
    if not _are_small(numbered, asked):
        raise TooMany(MOST_ENDS)
    return _dressed(numbered, asked)


def _are_small(numbered, asked):
    """Whether all parts of a bare term with its numbers have kinds with at most 60 ends."""
    pending = [numbered]
    while pending:
        part = pending.pop()
        if asked.count_ends(part[-1]) > MOST_ENDS:
            return False
        if part[0] == "fun":
            pending.append(part[3])
        elif part[0] == "call":
            pending.extend([part[1], part[2]])
    return True


def _dressed(numbered, asked):
    if numbered[0] == "name":
        return numbered[:2]
    if numbered[0] == "fun":
        return ("fun", numbered[1], asked.kind(numbered[2]), _dressed(numbered[3], asked))
    return ("call", _dressed(numbered[1], asked), _dressed(numbered[2], asked))


def told_by(pattern):
    """The closed normal bare term of which this is the principal pattern, None if there is none."""
    _need_pattern(pattern)
    ends = [number for _, number in signed_ends(pattern)]
    if any([ends.count(number) > 2 for number in ends]):
        return None
    bare = Teller().told(pattern, {}, MOST_ROW)
    if bare is None or weighed(bare, MOST_ROW, True) is None or principal(bare) != pattern:
        return None
    return bare


class Teller:
    """Reads bare terms off patterns."""

    def __init__(self):
        self._bound = 0

    def told(self, pattern, in_sight, row):
        """The bare term with at most row nodes in a row, None if there is none.

        in_sight tells, for the n with which the pattern of a thing ends, its name and the patterns that it is handed.
        """
        wanted, end = last_end(pattern)
        things = dict(in_sight)
        names = []
        for part in wanted:
            handed, last = last_end(part)
            names.append(name_in_row(self._bound))
            things[last] = (names[-1], handed)
            self._bound += 1
        if end not in things:
            return None
        come = self._called(things, end, row - len(wanted))
        if come is None:
            return None
        for name in reversed(names):
            come = ("fun", name, come)
        return come

    def _called(self, things, end, row):
        """The thing that ends so, called with all that it wants."""
        name, handed = things[end]
        if len(handed) >= row:
            return None
        rest = {other: things[other] for other in things if other != end}
        come = ("name", name)
        for at, part in enumerate(handed):
            inner = self.told(part, rest, row - len(handed) + at)
            if inner is None:
                return None
            come = ("call", come, inner)
        return come


def links_of(pattern):
    """The links that join the places of a pattern in pairs."""
    _need_pattern(pattern)
    at_ends = {}
    for end, (asked, number) in enumerate(signed_ends(pattern)):
        at_ends.setdefault(number, []).append((asked, end))
    found = []
    for pairs in at_ends.values():
        if len(pairs) == 2 and pairs[0][0] != pairs[1][0]:
            giving, asking = [end for _, end in sorted(pairs)]
            found.append((asking, "", giving))
    return tuple(sorted(found))
