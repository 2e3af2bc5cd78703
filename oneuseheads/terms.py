"""Texts, names and terms: what they are, which kinds terms have, and what stands where in them."""

from oneuseheads.errors import BadName, BadNames, BadPath, BadTerm
from oneuseheads.kinds import MOST_ENDS, TEXT, count_ends, is_kind
from oneuseheads.plain import ALPHABET, is_whole

KEPT_WORDS = ("call", "end", "fun", "name", "put", "text", "to")
MOST_NAME = 8
MOST_NODES = 400
MOST_ROW = 60
# At which indexes the terms stand that are directly in a term.
INSIDE = {"name": (), "fun": (3,), "call": (1, 2), "put": (2,), "end": ()}


def is_letter(value):
    """Whether value is a letter."""
    return isinstance(value, str) and len(value) == 1 and value in ALPHABET


def is_text(value):
    """Whether value is a text."""
    return isinstance(value, str) and (value == "" or value.isascii() and value.isalpha() and value.islower())


def is_text_of(told, value):
    """Whether value is a text in which no letters stand but those of the text told."""
    return isinstance(value, str) and sum([value.count(letter) for letter in told]) == len(value)


def is_name(value):
    """Whether value is a name."""
    return is_text(value) and 1 <= len(value) <= MOST_NAME and value not in KEPT_WORDS


def is_term(value):
    """Whether value is a term."""
    return weighed(value, MOST_ROW, False) is not None


def weighed(value, row, bare):
    """The number of nodes and the tuple of free names, None if value is no term with at most row nodes in a row.

    A bare one has no put and no end, and its funs tell no kinds.
    """
    if row == 0 or not isinstance(value, tuple) or len(value) == 0:
        return None
    word = value[0]
    if word == "name" and len(value) == 2 and is_name(value[1]):
        return 1, (value[1],)
    if word == "fun" and len(value) > 2 and is_name(value[1]) and _tells_kinds(value[2:-1], bare):
        return _bound(value[1], _one_more(weighed(value[-1], row - 1, bare)))
    if word == "call" and len(value) == 3:
        return _weighed_call(value, row, bare)
    if word == "end" and len(value) == 1 and not bare:
        return 1, ()
    if word == "put" and len(value) == 3 and is_letter(value[1]) and not bare:
        return _one_more(weighed(value[2], row - 1, bare))
    return None


def _tells_kinds(told, bare):
    """Whether what a fun tells between its name and its body is what it should be: a kind, or nothing."""
    return told == () if bare else len(told) == 1 and is_kind(told[0])


def _one_more(weights):
    if weights is None or weights[0] == MOST_NODES:
        return None
    return weights[0] + 1, weights[1]


def _bound(name, weights):
    if weights is None:
        return None
    return weights[0], tuple([other for other in weights[1] if other != name])


def _weighed_call(value, row, bare):
    # The second part is looked at only where the first is a term: so nested values that share parts do not take long.
    one = weighed(value[1], row - 1, bare)
    if one is None:
        return None
    other = weighed(value[2], row - 1, bare)
    if other is None or one[0] + other[0] >= MOST_NODES:
        return None
    if any([name in one[1] for name in other[1]]):
        return None
    return one[0] + other[0] + 1, one[1] + other[1]


def is_closed(value):
    """Whether value is a closed term."""
    return is_term(value) and kind_within(value, {}) is not None


def is_closed_of(kind, value):
    """Whether value is a closed term of what is known to be a kind."""
    return is_term(value) and kind_within(value, {}) == kind


def need_term(term):
    """Raises BadTerm unless term is a term."""
    if not is_term(term):
        raise BadTerm("this is no term")


def kind_of(term, names=()):
    """The kind that term has for names, a list of pairs of a name and a kind; None if it has none."""
    need_term(term)
    if not are_names(names):
        raise BadNames("this is no list of names with their kinds")
    return kind_within(term, {name: kind for name, kind in names})


def are_names(value):
    """Whether value is a list of pairs of a name and a kind, no name twice."""
    if not isinstance(value, (list, tuple)):
        return False
    told = {}
    for pair in value:
        if not isinstance(pair, tuple) or len(pair) != 2 or not is_name(pair[0]) or not is_kind(pair[1]):
            return False
        if pair[0] in told:
            return False
        told[pair[0]] = True
    return True


def kind_within(term, kinds):
    """The kind of what is known to be a term, kinds being a dict from names to kinds; None if it has none."""
    word = term[0]
    if word == "name":
        return kinds.get(term[1])
    if word == "fun":
        return _kind_of_fun(term, kinds)
    if word == "call":
        return _kind_of_call(term, kinds)
    if word == "put" and kind_within(term[2], kinds) != TEXT:
        return None
    return TEXT


def _kind_of_fun(term, kinds):
    _, name, told, body = term
    result = kind_within(body, {**kinds, name: told})
    if result is None:
        return None
    kind = ("to", told, result)
    return kind if count_ends(kind) <= MOST_ENDS else None


def _kind_of_call(term, kinds):
    called = kind_within(term[1], kinds)
    if called is None or called == TEXT or kind_within(term[2], kinds) != called[1]:
        return None
    return called[2]


def free_names(term):
    """The ascending list of the free names of term."""
    need_term(term)
    return free_in(term)


def free_in(term):
    """The ascending list of free names of what is built as terms are, be it too great for one."""
    found = {}
    pending = [(term, ())]
    while pending:
        part, bound = pending.pop()
        if part[0] == "name" and part[1] not in bound:
            found[part[1]] = True
        if part[0] == "fun":
            bound = bound + (part[1],)
        pending.extend([(part[index], bound) for index in INSIDE[part[0]]])
    return sorted(found)


def names_in(term):
    """A dict from each name that stands anywhere in term, bound or free, to True."""
    return {part[1]: True for _, part in parts_in(term) if part[0] in ("name", "fun")}


def paths(term):
    """The ascending list of all paths in term."""
    need_term(term)
    return [path for path, _ in parts_in(term)]


def parts_in(term):
    """The list of all paths in term, ascending, each in a pair with the part to which it leads."""
    found = []
    pending = [((), term)]
    while pending:
        path, part = pending.pop()
        found.append((path, part))
        pending.extend([((*path, index), part[index]) for index in reversed(INSIDE[part[0]])])
    return found


def row_in(term):
    """How many nodes there are in the longest row in term."""
    return 1 + max([len(path) for path, _ in parts_in(term)])


def part_at(term, path):
    """The term in term to which path leads."""
    need_term(term)
    return _need_part(term, path)


def _need_part(term, path):
    part = part_or_none(term, path)
    if part is None:
        raise BadPath("this path leads to no term")
    return part


def part_or_none(term, path):
    """The part to which path leads, None if path, which may be any value, leads to none."""
    if not isinstance(path, tuple):
        return None
    part = term
    for index in path:
        if not is_whole(index) or index not in INSIDE[part[0]]:
            return None
        part = part[index]
    return part


def with_part(term, path, part):
    """The term with part in the place to which path leads."""
    need_term(term)
    _need_part(term, path)
    need_term(part)
    come = exchanged(term, path, part)
    need_term(come)
    return come


def exchanged(term, path, part):
    """What comes if part is put to the place to which path is known to lead."""
    around = [term]
    for index in path:
        around.append(around[-1][index])
    come = part
    for depth in reversed(range(len(path))):
        parts = list(around[depth])
        parts[path[depth]] = come
        come = tuple(parts)
    return come


def renamed(term, path, name):
    """The term in which what the fun binds to which path leads is called name."""
    need_term(term)
    if _need_part(term, path)[0] != "fun":
        raise BadPath("this path leads to no fun")
    if not is_name(name) or name in names_in(term):
        raise BadName("this is no name that can be taken")
    return called_otherwise(term, path, name)


def called_otherwise(term, path, name):
    """What comes if what is bound by the fun to which path is known to lead is called name, which stands nowhere."""
    fun = part_or_none(term, path)
    body = fun[3]
    place = free_place(body, fun[1])
    if place is not None:
        body = exchanged(body, place, ("name", name))
    return exchanged(term, path, ("fun", name, fun[2], body))


def free_place(term, name):
    """The path to the one place at which name is free in term, None if there is none."""
    pending = [((), term)]
    while pending:
        path, part = pending.pop()
        if part[0] == "name" and part[1] == name:
            return path
        if part[0] != "fun" or part[1] != name:
            pending.extend([((*path, index), part[index]) for index in INSIDE[part[0]]])
    return None


def same_but_names(one, other):
    """Whether both are the same term but for how what their funs bind is called."""
    need_term(one)
    need_term(other)
    return _same(one, other, {}, {}, 0)


def _same(one, other, ones, others, depth):
    """Whether both are the same, ones and others telling at which depth the names around are bound."""
    word = one[0]
    if word != other[0]:
        return False
    if word == "name":
        return ones.get(one[1], one[1]) == others.get(other[1], other[1])
    if word == "put" and one[1] != other[1]:
        return False
    if word == "fun":
        _, name, told, _ = one
        _, beside, asked, _ = other
        if told != asked:
            return False
        ones = {**ones, name: depth}
        others = {**others, beside: depth}
    return all([_same(one[index], other[index], ones, others, depth + 1) for index in INSIDE[word]])
