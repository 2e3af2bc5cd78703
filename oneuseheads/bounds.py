"""How often a letter is written at least and at most, over all texts."""

from oneuseheads.errors import BadLetter, BadNumber
from oneuseheads.plain import ALPHABET, is_below
from oneuseheads.programs import need_program
from oneuseheads.terms import is_letter
from oneuseheads.ways import BEGIN, FINISH, components, ways_of

MOST_TIMES = 60


def least_written(program, letter):
    """The least number of this letter that is written on any text, and a text on which it is."""
    knots = _ways_for(program, letter)
    return _least(knots, letter)


def most_written(program, letter):
    """The greatest number of this letter that is written on any text, and a text on which it is; None if none is."""
    knots = _ways_for(program, letter)
    if letter in _written_round(knots):
        return None
    return _greatest(knots, letter, 1)


def _ways_for(program, letter):
    need_program(program)
    _need_letter(letter)
    return ways_of(program)


def _need_letter(letter):
    if not is_letter(letter):
        raise BadLetter("this is no letter")


def _least(knots, letter):
    number, text = _greatest(knots, letter, -1)
    return -number, text


def _greatest(knots, letter, sign):
    """The greatest sum that any text has, and such a text, where the letter counts sign each time it is written.

    There must be one.
    """
    sums = {BEGIN: 0}
    ahead = {}
    queue = [BEGIN]
    waits = {BEGIN: True}
    at = 0
    while at < len(queue):
        knot = queue[at]
        at += 1
        waits[knot] = False
        for goal, read, word in knots[knot]:
            come = sums[knot] + sign * word.count(letter)
            if goal not in sums or come > sums[goal]:
                sums[goal] = come
                ahead[goal] = (knot, read)
                if not waits.get(goal, False):
                    waits[goal] = True
                    queue.append(goal)
    return sums[FINISH], _text_to(FINISH, ahead)


def _text_to(goal, ahead):
    """The text that is read on the way to a goal, ahead telling of each but the first the one ahead and the letter."""
    letters = []
    here = goal
    while here in ahead:
        here, read = ahead[here]
        letters.append(read)
    return "".join(reversed(letters))


def _written_round(knots):
    """A dict from the letters that are written on ways that lead round to True."""
    numbers = components(knots)
    found = {}
    for knot, ways in enumerate(knots):
        for goal, _, word in ways:
            if numbers[goal] == numbers[knot]:
                for letter in word:
                    found[letter] = True
    return found


def text_with(program, letter, many):
    """A text on which this letter is written many times or more, None if there is none."""
    need_program(program)
    _need_letter(letter)
    if not is_below(many, MOST_TIMES + 1):
        raise BadNumber("this is no number from 0 to 60")
    knots = ways_of(program)
    # A standing is a knot and how many times are missing there.
    queue = [(BEGIN, many)]
    ahead = {}
    at = 0
    while at < len(queue) and queue[at] != (FINISH, 0):
        knot, missing = queue[at]
        for goal, read, word in knots[knot]:
            come = (goal, max(0, missing - word.count(letter)))
            if come not in ahead:
                ahead[come] = (queue[at], read)
                queue.append(come)
        at += 1
    return None if at == len(queue) else _text_to((FINISH, 0), ahead)


def never_written(program):
    """The text of the letters that are written on no text."""
    need_program(program)
    found = _written_at_all(ways_of(program))
    return "".join([letter for letter in ALPHABET if letter not in found])


def _written_at_all(knots):
    """A dict from the letters that are written on some text to True."""
    return {letter: True for ways in knots for _, _, word in ways for letter in word}


def always_written(program):
    """The text of the letters that are written on each text."""
    need_program(program)
    knots = ways_of(program)
    return "".join([letter for letter in sorted(_written_at_all(knots)) if _least(knots, letter)[0] > 0])


def bounded_letters(program):
    """The text of the letters that have a greatest number over all texts."""
    need_program(program)
    found = _written_round(ways_of(program))
    return "".join([letter for letter in ALPHABET if letter not in found])
