"""Shapes: the links of tables without their words, what stretches of text do to them, and the groups among them."""

from oneuseheads.errors import BadShape
from oneuseheads.kinds import need_kind
from oneuseheads.programs import need_program, need_read
from oneuseheads.stretches import Marker, Stretches, key_of, shape_of_marked
from oneuseheads.tables import is_right_table, need_double_kind, need_table, own_table, put_through
from oneuseheads.walks import with_tables


def shape_of(kind, table):
    """The shape of a table of kind."""
    need_kind(kind)
    need_table(kind, table)
    return _without_words(table)


def _without_words(links):
    return tuple([(end, goal) for end, _, goal in links])


def is_shape(kind, value):
    """Whether value is the shape of a table of kind."""
    need_kind(kind)
    return _is_shape(kind, value)


def _is_shape(kind, value):
    if not isinstance(value, tuple) or not all([isinstance(pair, tuple) and len(pair) == 2 for pair in value]):
        return False
    return is_right_table(kind, _with_words(value))


def _with_words(shape):
    return tuple([(end, "", goal) for end, goal in shape])


def plain_shape(kind):
    """The shape of the function that is what it is handed."""
    return _without_words(own_table(kind))


def joined(kind, one, other):
    """The shape of the function that is one of what other is of what it is handed, told by the shapes of both."""
    need_double_kind(kind)
    _need_shape(kind, one)
    _need_shape(kind, other)
    return _without_words(put_through(kind, kind, _with_words(one), _with_words(other)))


def _need_shape(kind, value):
    if not _is_shape(("to", kind, kind), value):
        raise BadShape("this is no shape of a function from the kind to itself")


def _marker(program):
    return Marker(with_tables(program), "none")


def stretch_shape(program, text):
    """The shape of the term as which a stretch of text acts."""
    need_program(program)
    need_read(program[3], text)
    return shape_of_marked(_marker(program).of_text(text))


def shapes(program):
    """The list of the pairs of the least stretch and the shape, for all shapes of stretches."""
    need_program(program)
    found = Stretches(_marker(program))
    return [(text, shape_of_marked(links)) for text, links in zip(found.texts, found.links)]


def powers(program, text):
    """The least wholes first and round such that the powers first and first + round of text have one shape."""
    need_program(program)
    need_read(program[3], text)
    marker = _marker(program)
    once = marker.of_text(text)
    here = marker.plain
    met = {}
    while key_of(here) not in met:
        met[key_of(here)] = len(met)
        here = marker.joined(here, once)
    first = met[key_of(here)]
    return first, len(met) - first


def turned_round(program):
    """The least stretch whose powers come again with a round of more than 1, None if there is none."""
    need_program(program)
    found = Stretches(_marker(program))
    for number, text in enumerate(found.texts):
        _, turn, _ = found.powers(found.products(number))
        if turn > 1:
            return text
    return None


def groups(program):
    """The pairs of a stretch whose shape, joined to itself, is the same, and of the stretches in its group."""
    need_program(program)
    found = Stretches(_marker(program))
    members = {}
    for number in range(len(found.texts)):
        products = found.products(number)
        first, turn, told = found.powers(products)
        # The one power, but that of 0, that is the same if it is joined to itself.
        times = turn * max(1, (first + turn - 1) // turn)
        own = _power(told, first, turn, times)
        if products[own] == number:
            members.setdefault(own, []).append(number)
    told = []
    for own in sorted(members):
        if len(members[own]) > 1:
            told.append((found.texts[own], [found.texts[number] for number in members[own]]))
    return told


def _power(told, first, turn, times):
    """The number of the power so many times, told being the powers until they come again."""
    return told[times] if times < len(told) else told[first + (times - first) % turn]
