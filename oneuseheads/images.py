"""The texts on which a program writes into a regular language."""

from oneuseheads.ends import end_rows
from oneuseheads.errors import OtherLetters, TooMany, Unread
from oneuseheads.fronts import closed_front, first_front, led_front
from oneuseheads.languages import MOST_STATES, least_machine, moves_of, need_machine
from oneuseheads.least import least_of
from oneuseheads.programs import letters_of, may_write, need_program
from oneuseheads.tables import by_end
from oneuseheads.walks import with_tables

MOST_FRONTS = 4000


def writes_into(program, machine):
    """The least machine that lets just the texts on which program writes a text that machine lets."""
    need_program(program)
    need_machine(machine)
    _need_all_had(program, machine)
    return _image(program, machine)


def leads(program, one, other):
    """The first text that one lets on which program does not write a text that other lets, None if there is none."""
    need_program(program)
    need_machine(one)
    need_machine(other)
    if one[1] != letters_of(program[3]):
        raise OtherLetters("the machine does not have the letters that the program reads")
    _need_all_had(program, other)
    return _first_alone(one, _image(program, other))


def _need_all_had(program, machine):
    for letter in may_write(program):
        if letter not in machine[1]:
            raise Unread(letter)


def _first_alone(one, other):
    """The first text that the one machine lets and the other one, with the same letters, does not."""
    texts = {(0, 0): ""}
    pending = [(0, 0)]
    at = 0
    while at < len(pending):
        first, second = pending[at]
        text = texts[(first, second)]
        if first in one[3] and second not in other[3]:
            return text
        for letter, goal, beside in zip(one[1], one[2][first], other[2][second]):
            if (goal, beside) not in texts:
                texts[(goal, beside)] = text + letter
                pending.append((goal, beside))
        at += 1
    return None


def _image(program, machine):
    head = with_tables(program)
    rows = end_rows(head[1])
    steps = [by_end(links) for _, links in head[3]]
    doings = Doings(least_machine(machine), len(rows))
    begun = (first_front(head), {end: doings.at_end(end, [word], {}) for end, word, _ in head[4]})
    fronts = [begun]
    numbers = {_key(*begun): 0}
    moves = []
    while len(moves) < len(fronts):
        front, held = fronts[len(moves)]
        moves.append([])
        for step in steps:
            led = led_front(rows, front, step)
            goals = {end: goal for end, (_, goal) in led.items()}
            come = (goals, {end: doings.at_end(end, pieces, held) for end, (pieces, _) in led.items()})
            key = _key(*come)
            if key not in numbers:
                numbers[key] = len(fronts)
                fronts.append(come)
                if len(fronts) > MOST_FRONTS:
                    raise TooMany(MOST_STATES)
            moves[-1].append(numbers[key])
    good = []
    for front, held in fronts:
        good.append(doings.lets(doings.put_together(closed_front(head, len(rows), front), held)))
    return least_of(letters_of(head[3]), moves, good, MOST_STATES)


def _key(front, held):
    return tuple([(end, front[end], held[end]) for end in sorted(front)])


class Doings:
    """What texts do to the states of a machine, each known by a number: 0 is that of the empty text.

    result is the end at which the walk begins.
    """

    def __init__(self, machine, result):
        self._good = machine[3]
        self._result = result
        self._leads = [tuple(range(len(machine[2])))]
        self._numbers = {self._leads[0]: 0}
        self._joined = {}
        self._letters = {letter: self._number(tuple(moves)) for letter, moves in moves_of(machine).items()}

    def _number(self, leads_told):
        if leads_told not in self._numbers:
            self._numbers[leads_told] = len(self._leads)
            self._leads.append(leads_told)
        return self._numbers[leads_told]

    def _behind(self, one, other):
        """The number of what one and then the other do."""
        if (one, other) not in self._joined:
            further = self._leads[other]
            self._joined[(one, other)] = self._number(tuple([further[state] for state in self._leads[one]]))
        return self._joined[(one, other)]

    def at_end(self, end, pieces, held):
        """As put_together; what is written at the result is read first, so only what it does to state 0 is kept."""
        come = self.put_together(pieces, held)
        if end != self._result:
            return come
        leads_told = self._leads[come]
        return self._number(tuple([leads_told[0] for _ in leads_told]))

    def put_together(self, pieces, held):
        """The number of what pieces do one behind another: words, and ends of which held tells the numbers."""
        come = 0
        for piece in pieces:
            if isinstance(piece, str):
                for letter in piece:
                    come = self._behind(come, self._letters[letter])
            else:
                come = self._behind(come, held[piece])
        return come

    def lets(self, number):
        """Whether what does this to the states is let."""
        return self._leads[number][0] in self._good
