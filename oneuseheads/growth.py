"""How much is written on texts of one length, how far the walk goes there, and how what is written grows."""

from math import gcd

from oneuseheads.errors import BadMany, TooMany
from oneuseheads.fronts import rows_of_fronts
from oneuseheads.plain import is_below
from oneuseheads.programs import need_program
from oneuseheads.walks import with_tables
from oneuseheads.ways import BEGIN, FINISH, Looks, Rears

MOST_LETTERS = 200
MOST_LOOKS = 400


def longest(program, many):
    """The greatest number of letters written on a text of many letters, and the first such text."""
    need_program(program)
    _need_many(many)
    return _first_greatest(_written(_looks(program), 1), many)


def shortest(program, many):
    """The least number of letters written on a text of many letters, and the first such text."""
    need_program(program)
    _need_many(many)
    number, text = _first_greatest(_written(_looks(program), -1), many)
    return -number, text


def most_crossed(program, many):
    """The greatest number of crossings of a walk over a text of many letters, and the first such text."""
    need_program(program)
    _need_many(many)
    looks = _looks(program)
    crossings = looks.crossings()
    knots = [[(goal, read, crossings[goal]) for goal, read, _ in ways] for ways in looks.lists_of_ways()]
    return _first_greatest(knots, many)


def _need_many(many):
    if not is_below(many, MOST_LETTERS + 1):
        raise BadMany("this is no number of letters from 0 to 200")


def _looks(program):
    head = with_tables(program)
    fronts = rows_of_fronts(head, MOST_LOOKS)
    rears = Rears(head, MOST_LOOKS)
    if len(fronts) * len(rears.found) > MOST_LOOKS:
        raise TooMany(MOST_LOOKS)
    return Looks(head, fronts, rears)


def _written(looks, sign):
    """The knots of looks, each way with sign times how many letters are written on it."""
    return [[(goal, read, sign * len(word)) for goal, read, word in ways] for ways in looks.lists_of_ways()]


def _first_greatest(knots, many):
    """The greatest sum of a text of many letters, and the first text that has it."""
    left = _greatest_left(knots, many)
    sums = [(goal, number) for goal, _, number in knots[BEGIN] if left[many][goal] is not None]
    most = max([number + left[many][goal] for goal, number in sums])
    # All knots, with the sums so far, at which a text that begins with these letters and has the greatest sum can be.
    here = [(knot, number) for knot, number in sums if number + left[many][knot] == most]
    letters = []
    for still in reversed(range(many)):
        news = []
        for knot, so_far in here:
            for goal, read, number in knots[knot]:
                behind = left[still][goal]
                if read != "" and behind is not None and so_far + number + behind == most:
                    news.append((read, goal, so_far + number))
        letter = min([read for read, _, _ in news])
        letters.append(letter)
        here = [(goal, number) for read, goal, number in news if read == letter]
    return most, "".join(letters)


def _greatest_left(knots, many):
    """For each number of letters up to many, for each knot the greatest sum of ways to FINISH with so many letters.

    It is None where there is no such way.
    """
    ends = [None] * len(knots)
    for knot, ways in enumerate(knots):
        for goal, read, number in ways:
            if goal == FINISH and read == "":
                ends[knot] = number
    found = [ends]
    for _ in range(many):
        ahead = found[-1]
        row = []
        for ways in knots:
            told = [number + ahead[goal] for goal, read, number in ways if read != "" and ahead[goal] is not None]
            row.append(max(told, default=None))
        found.append(row)
    return found


def greatest_rate(program):
    """How fast, at most, what is written grows with the text: top and bottom, a stretch that does so, and the spare."""
    need_program(program)
    return _rate(_written(_looks(program), 1))


def least_rate(program):
    """How fast, at least, what is written grows with the text: top and bottom, a stretch that does so, the spare."""
    need_program(program)
    top, bottom, stretch, spare = _rate(_written(_looks(program), -1))
    return -top, bottom, stretch, -spare


def _rate(knots):
    # Any round way grows faster than this.
    top, bottom = -1 - max([-number for ways in knots for _, _, number in ways]), 1
    turn = _round_above(knots, top, bottom)
    fastest = turn
    while turn:
        fastest = turn
        total = sum([number for _, _, number in turn])
        common = gcd(total, len(turn))
        top, bottom = total // common, len(turn) // common
        turn = _round_above(knots, top, bottom)
    first = fastest[0][0]
    ahead = _shortest_text(knots, BEGIN, first)
    again = "".join([read for _, read, _ in fastest])
    behind = _shortest_text(knots, first, FINISH)
    return top, bottom, (ahead, again, behind), _greatest_spare(knots, top, bottom)


def _weight(read, number, top, bottom):
    """How much more than the rate tells, times bottom, is written on a way."""
    return bottom * number - (0 if read == "" else top)


def _round_above(knots, top, bottom):
    """A way that leads round and grows faster than top to bottom, no knot twice; the empty list if there is none.

    It is a list of triples of a knot, the letter that is read there, and the number.
    """
    sums = [0] * len(knots)
    ahead = {}
    for _ in range(len(knots) + 1):
        changed = None
        for knot, ways in enumerate(knots):
            for goal, read, number in ways:
                come = sums[knot] + _weight(read, number, top, bottom)
                if read != "" and come > sums[goal]:
                    sums[goal] = come
                    ahead[goal] = (knot, read, number)
                    changed = goal
        if changed is None:
            return []
    return _round_to(changed, ahead)


def _round_to(knot, ahead):
    """The round way to which one comes from a knot if one goes back, ahead telling of each knot the way to it."""
    here = knot
    met = {}
    while here not in met:
        met[here] = True
        here = ahead[here][0]
    turn = [ahead[here]]
    while turn[-1][0] != here:
        turn.append(ahead[turn[-1][0]])
    return turn[::-1]


def _shortest_text(knots, begin, finish):
    """A text, of the fewest letters, that is read on a way from one knot to another."""
    texts = {begin: ""}
    order = [begin]
    at = 0
    while finish not in texts:
        knot = order[at]
        at += 1
        for goal, read, _ in knots[knot]:
            if goal not in texts:
                texts[goal] = texts[knot] + read
                order.append(goal)
    return texts[finish]


def _greatest_spare(knots, top, bottom):
    """The greatest sum of weights of a text; there is one, as no way that leads round adds anything."""
    sums = {BEGIN: 0}
    changed = True
    while changed:
        changed = False
        for knot, ways in enumerate(knots):
            if knot in sums:
                for goal, read, number in ways:
                    come = sums[knot] + _weight(read, number, top, bottom)
                    if goal not in sums or come > sums[goal]:
                        sums[goal] = come
                        changed = True
    return sums[FINISH]
