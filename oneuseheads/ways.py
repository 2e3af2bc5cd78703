"""All texts as the ways in one finite graph: what is written at a place hangs on what is ahead of it and behind it.

A knot is a front and a rear, without words; a way from knot to knot reads a letter. A rear is a dict from the asked
ends of the program's kind to the goals, for what is behind a boundary.
"""

from oneuseheads.ends import end_rows
from oneuseheads.errors import TooMany
from oneuseheads.fronts import rows_of_fronts, shape_of_front, step_of_init
from oneuseheads.tables import by_end
from oneuseheads.walks import with_tables

MOST_TABLES = 60
BEGIN = 0
FINISH = 1


def ways_of(program):
    """The list, knot by knot, of the lists of ways from there: triples of the knot to which a way leads, the letter
    that is read, and the letters that are written at its place.

    The ways from knot BEGIN to knot FINISH are the texts; the first and the last step of each read no letter. Each
    knot is on such a way.
    """
    head = with_tables(program)
    return Looks(head, rows_of_fronts(head, MOST_TABLES), Rears(head, MOST_TABLES)).lists_of_ways()


class Looks:
    """The knots for all fronts and all rears that texts of a head have."""

    def __init__(self, head, fronts, rears):
        self._head = head
        self._many = len(end_rows(head[1]))
        self._fronts = fronts
        self._rears = rears

    def knot(self, left, right):
        """The number of the knot of a front and a rear, told by their numbers."""
        return 2 + left * len(self._rears.found) + right

    def crossings(self):
        """The list, knot by knot, of how many times the walk crosses the boundary there."""
        found = [0, 0]
        for row in self._fronts:
            found.extend([_crossings(self._many, row.front, rear) for rear in self._rears.found])
        return found

    def lists_of_ways(self):
        """The list of the lists of ways, as ways_of tells it."""
        rears = self._rears.found
        knots = [[] for _ in range(2 + len(self._fronts) * len(rears))]
        last = by_end(self._head[4])
        for right, rear in enumerate(rears):
            # The last term is asked as a step is asked if all that is ahead goes to its result.
            word = written_between(self._many, {self._many: 0}, last, rear)
            knots[BEGIN].append((self.knot(0, right), "", word))
        init = step_of_init(self._many, self._head[2])
        for left, row in enumerate(self._fronts):
            word = written_between(self._many, row.front, init, {})
            knots[self.knot(left, 0)].append((FINISH, "", word))
            for (letter, links), (goal, _), lead in zip(self._head[3], row.moves, self._rears.leads):
                step = by_end(links)
                for right, rear in enumerate(rears):
                    word = written_between(self._many, row.front, step, rear)
                    knots[self.knot(left, lead[right])].append((self.knot(goal, right), letter, word))
        return knots


def _crossings(many, front, rear):
    """How many times a walk crosses the boundary between a front and a rear, for a kind with many ends."""
    number = 0
    goal = front[many]
    while goal is not None:
        number += 1
        goal = rear[goal]
        if goal is not None:
            number += 1
            goal = front[goal]
    return number


class Rears:
    """All rears of texts: found is the list of them, that of the empty text first; leads is, letter by letter, the
    list of the numbers of the rears to which each rear leads if the letter is put ahead of it.

    Raises TooMany if they are more than most.
    """

    def __init__(self, head, most):
        rows = end_rows(head[1])
        steps = [by_end(links) for _, links in head[3]]
        self.found = [{end: goal for end, _, goal in head[2]}]
        self.leads = [[] for _ in steps]
        numbers = {shape_of_front(self.found[0]): 0}
        at = 0
        while at < len(self.found):
            for step, lead in zip(steps, self.leads):
                rear = _led_rear(rows, self.found[at], step)
                shape = shape_of_front(rear)
                if shape not in numbers:
                    numbers[shape] = len(self.found)
                    self.found.append(rear)
                    if len(self.found) > most:
                        raise TooMany(most)
                lead.append(numbers[shape])
            at += 1


def _led_rear(rows, rear, step):
    many = len(rows)
    come = {}
    pending = [many - 1]
    while pending:
        end = pending.pop()
        goal = step[many + end][1]
        while goal is not None and goal < many:
            back = rear[goal]
            goal = None if back is None else step[back][1]
        come[end] = None if goal is None else goal - many
        if goal is not None:
            pending.extend(rows[goal - many][1])
    return come


def written_between(many, front, step, rear):
    """The letters that a step writes between a front and a rear, for a kind with many ends."""
    words = []
    asked = front[many]
    while asked is not None:
        word, goal = step[many + asked]
        words.append(word)
        while goal is not None and goal < many:
            back = rear[goal]
            word, goal = ("", None) if back is None else step[back]
            words.append(word)
        asked = None if goal is None else front[goal - many]
    return "".join(words)


def components(knots):
    """A list of numbers, one for each knot: two have the same one just if ways lead from each to the other."""
    against = [[] for _ in knots]
    for knot, ways in enumerate(knots):
        for goal, _, _ in ways:
            against[goal].append(knot)
    numbers = {}
    for first in reversed(_left_behind(knots)):
        if first not in numbers:
            numbers[first] = first
            pending = [first]
            while pending:
                here = pending.pop()
                for knot in against[here]:
                    if knot not in numbers:
                        numbers[knot] = first
                        pending.append(knot)
    return [numbers[knot] for knot in range(len(knots))]


def _left_behind(knots):
    """The knots in the order in which a search in depth, from BEGIN on, leaves them for good."""
    order = []
    looked = [0] * len(knots)
    met = {BEGIN: True}
    trail = [BEGIN]
    while trail:
        knot = trail[-1]
        if looked[knot] == len(knots[knot]):
            order.append(trail.pop())
        else:
            goal = knots[knot][looked[knot]][0]
            looked[knot] += 1
            if goal not in met:
                met[goal] = True
                trail.append(goal)
    return order
