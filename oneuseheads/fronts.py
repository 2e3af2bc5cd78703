"""Fronts: what a program is ahead of a boundary, led on letter by letter, and what is written where.

Here a front is a dict from its asked ends to its goals; its words are told by pieces: a piece is an asked end of the
front of one letter less, for all that it writes, or a word. A step is a dict as by_end tells it.
"""

from oneuseheads.ends import end_rows
from oneuseheads.errors import TooMany
from oneuseheads.tables import by_end


def first_front(head):
    """The front of the empty text."""
    return {end: goal for end, _, goal in head[4]}


def shape_of_front(front):
    """The ascending tuple of the ends and goals of a front."""
    return tuple([(end, front[end]) for end in sorted(front)])


def led_front(rows, front, step):
    """A dict from the asked ends of the front behind one letter more to its pieces and goals.

    rows are those of the ends of the program's kind.
    """
    come = {}
    pending = [len(rows)]
    while pending:
        end = pending.pop()
        come[end] = _way(len(rows), front, step, end)
        goal = come[end][1]
        if goal is not None:
            pending.extend(rows[goal][1])
    return come


def _way(many, front, step, end):
    """The list of pieces from this end on, and the goal, for a program whose kind has many ends."""
    pieces = []
    here = end
    if end == many:
        pieces.append(end)
        if front[end] is None:
            return pieces, None
        here = many + front[end]
    while True:
        word, goal = step[here]
        pieces.append(word)
        if goal is None or goal < many:
            return pieces, goal
        back = goal - many
        pieces.append(back)
        if front[back] is None:
            return pieces, None
        here = many + front[back]


def step_of_init(many, links):
    """The step that asks nothing behind it and is, for the front ahead of it, what init with these links is."""
    return {many + end: (word, None if goal is None else many + goal) for end, word, goal in links}


def closed_front(head, many, front):
    """The list of pieces of all that is written where a front meets init."""
    pieces, _ = _way(many, front, step_of_init(many, head[2]), many)
    return pieces


class Row:
    """A front that is met: its goals, and for each letter the number of the next row and the dict that leads there."""

    def __init__(self, front):
        self.front = front
        self.moves = []


def rows_of_fronts(head, most):
    """The list of a row for each shape of fronts, as a walk by letters meets them; TooMany if they are more than most.
    """
    rows = end_rows(head[1])
    steps = [by_end(links) for _, links in head[3]]
    found = [Row(first_front(head))]
    numbers = {shape_of_front(found[0].front): 0}
    at = 0
    while at < len(found):
        for step in steps:
            led = led_front(rows, found[at].front, step)
            front = {end: goal for end, (_, goal) in led.items()}
            shape = shape_of_front(front)
            if shape not in numbers:
                numbers[shape] = len(found)
                found.append(Row(front))
                if len(found) > most:
                    raise TooMany(most)
            found[at].moves.append((numbers[shape], led))
        at += 1
    return found
