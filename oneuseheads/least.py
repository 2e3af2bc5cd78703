"""The fewest states that tell the same of all texts: states are put together that lead on alike."""

from oneuseheads.errors import TooMany


def least_of(letters, rows, good, most):
    """The least machine for texts of letters, where good tells of each of rows whether it is good.

    Raises TooMany if it has more than most states; rows may be more.
    """
    moves, told = least_told(rows, good, most)
    return ("machine", letters, moves, tuple([state for state, sign in enumerate(told) if sign]))


def least_told(rows, told, most):
    """The least rows that tell the same: the tuple of the tuples of goals, and the tuple of what is told of each.

    told is the list of what is told of rows. States are numbered as a walk from the first one meets them. Raises
    TooMany if they are more than most.
    """
    order = _states_met(rows, 0)
    places = {state: at for at, state in enumerate(order)}
    met = [[places[goal] for goal in rows[state]] for state in order]
    classes = _classes(met, [told[state] for state in order], most)
    leads = {classes[at]: [classes[goal] for goal in row] for at, row in enumerate(met)}
    signs = {classes[at]: told[state] for at, state in enumerate(order)}
    come = _states_met(leads, classes[0])
    numbers = {state: at for at, state in enumerate(come)}
    moves = tuple([tuple([numbers[goal] for goal in leads[state]]) for state in come])
    return moves, tuple([signs[state] for state in come])


def _states_met(rows, first):
    """The list of the states that are met from the first one on, as a walk that goes by letters first meets them."""
    met = {first: True}
    order = [first]
    at = 0
    while at < len(order):
        state = order[at]
        for goal in rows[state]:
            if goal not in met:
                met[goal] = True
                order.append(goal)
        at += 1
    return order


def _classes(rows, told, most):
    """A list with the number of the class of each state: from states of one class on the same is told."""
    members, numbers = _first_classes(told)
    befores = [_states_before(rows, at) for at in range(len(rows[0]))]
    pending = list(range(len(members)))
    waits = {number: True for number in pending}
    while pending:
        number = pending.pop()
        waits[number] = False
        into = list(members[number])
        for before in befores:
            for new, old in _split(members, numbers, [state for goal in into for state in before[goal]]):
                # What is led into one of two parts tells what is led into the other, so the smaller one will do.
                chosen = new if waits.get(old) or len(members[new]) <= len(members[old]) else old
                pending.append(chosen)
                waits[chosen] = True
        if len(members) > most:
            raise TooMany(most)
    return numbers


def _first_classes(told):
    """The classes, as dicts from states to True, of which unlike things are told, and the number of each state."""
    signs = sorted(set(told))
    members = [{state: True for state, sign in enumerate(told) if sign == one} for one in signs]
    return members, [signs.index(sign) for sign in told]


def _states_before(rows, at):
    """A list with, for each state, the list of those that the letter with this number leads to it."""
    found = [[] for _ in rows]
    for state, row in enumerate(rows):
        found[row[at]].append(state)
    return found


def _split(members, numbers, states):
    """Parts states from the others of their classes; tells the pairs of numbers of new classes and old ones."""
    touched = {}
    for state in states:
        touched.setdefault(numbers[state], []).append(state)
    come = []
    for old, parted in touched.items():
        if len(parted) < len(members[old]):
            new = len(members)
            members.append({state: True for state in parted})
            for state in parted:
                del members[old][state]
                numbers[state] = new
            come.append((new, old))
    return come
