"""Calls that can be done, the normal term to which doing them leads, and the orders of doing them."""

from oneuseheads.errors import BadPath, TooMany
from oneuseheads.plain import name_in_row
from oneuseheads.terms import KEPT_WORDS, MOST_ROW, called_otherwise, exchanged, free_in, free_place, names_in
from oneuseheads.terms import need_term, part_or_none, parts_in, row_in


def doable(term):
    """The ascending list of the paths of all calls in term that can be done."""
    need_term(term)
    return _doable(term)


def _doable(term):
    return [path for path, part in parts_in(term) if _can_be_done(part)]


def _can_be_done(part):
    return part[0] == "call" and part[1][0] == "fun"


def done(term, path):
    """What comes of term if the call to which path leads is done."""
    need_term(term)
    if not _leads_to_doable(term, path):
        raise BadPath("this path leads to no call that can be done")
    come = _done(term, path)
    _need_row(come)
    return come


def _leads_to_doable(term, path):
    part = part_or_none(term, path)
    return part is not None and _can_be_done(part)


def _need_row(term):
    if row_in(term) > MOST_ROW:
        raise TooMany(MOST_ROW)


def _done(term, path):
    """What comes, be it too great for a term."""
    call = part_or_none(term, path)
    handed = call[2]
    place = free_place(call[1][3], call[1][1])
    if place is None:
        return exchanged(term, path, call[1][3])
    body = _made_free(call[1][3], place, free_in(handed), names_in(term))
    return exchanged(term, path, exchanged(body, place, handed))


def _made_free(body, place, free, standing):
    """What comes of body if the funs around place that would catch a name of free bind spare names instead."""
    come = body
    taken = list(standing)
    for depth in range(len(place)):
        fun = part_or_none(come, place[:depth])
        if fun[0] == "fun" and fun[1] in free:
            spare = _spare_name(taken)
            taken.append(spare)
            come = called_otherwise(come, place[:depth], spare)
    return come


def _spare_name(taken):
    number = 0
    while name_in_row(number) in taken or name_in_row(number) in KEPT_WORDS:
        number += 1
    return name_in_row(number)


def normal(term):
    """The normal term to which doing calls leads."""
    need_term(term)
    come = reduced(term)
    _need_row(come)
    return come


def reduced(term):
    """The normal form of what is built as terms are, whatever its kinds; both may be too great for terms."""
    _, come = _led(term, _first_path)
    return come


def _led(term, choose):
    """The order of the calls that choose takes, until none can be done, and what comes of term in the end."""
    order = []
    come = term
    can = _doable(come)
    while can:
        path = choose(come, can)
        order.append(path)
        come = _done(come, path)
        can = _doable(come)
    return order, come


def _first_path(_, can):
    return can[0]


def are_orders(term, path_list):
    """Whether path_list is a list of paths of calls done one behind another that lead to a normal term."""
    need_term(term)
    if not isinstance(path_list, list):
        return False
    come = term
    for path in path_list:
        if not _leads_to_doable(come, path):
            return False
        come = _done(come, path)
    return not _doable(come)


def fewest(term):
    """An order in which the fewest calls are done."""
    need_term(term)
    order, _ = _led(term, _first_path)
    return order


def most(term):
    """An order in which the most calls are done."""
    need_term(term)
    order, _ = _led(term, _path_for_most)
    return order


def _path_for_most(term, can):
    """The first of can, the paths of all calls that can be done, that takes away no other one undone."""
    path = can[0]
    within = _within_handed(path, can)
    while within and _drops(term, path):
        path = within[0]
        within = _within_handed(path, can)
    return path


def _within_handed(path, can):
    """Those of can that lead into what the call at path hands over."""
    begin = (*path, 2)
    return [other for other in can if other[:len(begin)] == begin]


def _drops(term, path):
    """Whether the call at path, if it is done, drops what it hands over."""
    fun = part_or_none(term, path)[1]
    return free_place(fun[3], fun[1]) is None


def drops(term):
    """Whether some order drops what is handed over."""
    come = term
    # Where one order drops each one drops, so one of them tells it.
    for path in fewest(term):
        if _drops(come, path):
            return True
        come = _done(come, path)
    return False
