"""Machines: what reads a text from left to right, from state to state, and lets it or not."""

from oneuseheads.errors import BadMachine, BadNumber, BadText, BadWord, OtherLetters
from oneuseheads.least import least_of
from oneuseheads.plain import ascends, is_below
from oneuseheads.terms import is_text, is_text_of

MOST_STATES = 400
MOST_LENGTH = 1000


def is_machine(value):
    """Whether value is a machine."""
    if not isinstance(value, tuple) or len(value) != 4 or value[0] != "machine":
        return False
    _, letters, rows, good = value
    if not are_letters(letters) or not isinstance(rows, tuple) or not 1 <= len(rows) <= MOST_STATES:
        return False
    if not all([_are_states(row, len(rows)) and len(row) == len(letters) for row in rows]):
        return False
    return _are_states(good, len(rows)) and ascends(good)


def are_letters(value):
    """Whether value is a text of 1 to 26 letters, ascending, none twice."""
    return is_text(value) and value != "" and ascends(value)


def _are_states(value, many):
    return isinstance(value, tuple) and all([is_below(state, many) for state in value])


def need_machine(machine):
    if not is_machine(machine):
        raise BadMachine("this is no machine")


def _need_text_of(machine, text):
    need_machine(machine)
    if not is_text_of(machine[1], text):
        raise BadText("this is no text of the machine's letters")


def moves_of(machine):
    """A dict from each letter to the list of the states to which it leads from each state."""
    _, letters, rows, _ = machine
    return {letter: [row[at] for row in rows] for at, letter in enumerate(letters)}


def lets(machine, text):
    """Whether machine lets text."""
    _need_text_of(machine, text)
    moves = moves_of(machine)
    state = 0
    for letter in text:
        state = moves[letter][state]
    return state in machine[3]


def led_on(machine, text):
    """The list of the states to which text leads from each state."""
    _need_text_of(machine, text)
    moves = moves_of(machine)
    states = list(range(len(machine[2])))
    for letter in text:
        leads = moves[letter]
        states = [leads[state] for state in states]
    return states


def _goodness(machine):
    """A list with, for each state, whether it is good."""
    good = {state: True for state in machine[3]}
    return [state in good for state in range(len(machine[2]))]


def least_machine(machine):
    """The machine of fewest states that lets the same texts."""
    need_machine(machine)
    return least_of(machine[1], machine[2], _goodness(machine), MOST_STATES)


def contrary(machine):
    """The least machine that lets just the other texts."""
    need_machine(machine)
    return least_of(machine[1], machine[2], [not told for told in _goodness(machine)], MOST_STATES)


def combined(word, one, other):
    """The least machine that lets what both let, what either lets, or what the first one alone lets."""
    if not isinstance(word, str) or word not in ("both", "either", "first"):
        raise BadWord("this is none of the words for what comes of two machines")
    need_machine(one)
    need_machine(other)
    if one[1] != other[1]:
        raise OtherLetters("these machines have unlike letters")
    return _combined(word, least_machine(one), least_machine(other))


def _combined(word, one, other):
    pairs = [(0, 0)]
    numbers = {(0, 0): 0}
    rows = []
    while len(rows) < len(pairs):
        first, second = pairs[len(rows)]
        row = []
        for pair in zip(one[2][first], other[2][second]):
            if pair not in numbers:
                numbers[pair] = len(pairs)
                pairs.append(pair)
            row.append(numbers[pair])
        rows.append(row)
    ones = _goodness(one)
    others = _goodness(other)
    good = [_is_let(word, ones[first], others[second]) for first, second in pairs]
    return least_of(one[1], rows, good, MOST_STATES)


def _is_let(word, one, other):
    """Whether what is let by the first machine or not, and by the other one or not, is let by what comes of both."""
    if word == "both":
        return one and other
    if word == "either":
        return one or other
    return one and not other


def first_text(machine):
    """The first text, by length and then ascending, that machine lets; None if there is none."""
    need_machine(machine)
    _, letters, rows, good = machine
    texts = {0: ""}
    order = [0]
    at = 0
    while at < len(order):
        state = order[at]
        if state in good:
            return texts[state]
        for letter, goal in zip(letters, rows[state]):
            if goal not in texts:
                texts[goal] = texts[state] + letter
                order.append(goal)
        at += 1
    return None


def texts_of_length(machine, length):
    """How many texts with so many letters machine lets."""
    need_machine(machine)
    if not is_below(length, MOST_LENGTH + 1):
        raise BadNumber("this is no length from 0 to 1000")
    ways = {0: 1}
    for _ in range(length):
        come = {}
        for state, many in ways.items():
            for goal in machine[2][state]:
                come[goal] = come.get(goal, 0) + many
        ways = come
    return sum([many for state, many in ways.items() if state in machine[3]])
