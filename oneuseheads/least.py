"""The machine of fewest states that lets the same texts: states are put together that lead on alike."""

from oneuseheads.errors import TooMany


def least_of(letters, rows, good, most):
    """The least machine for texts of letters, where good tells of each of rows whether it is good.

    Raises TooMany if it has more than most states; rows may be more.
    """
    order = _states_met(rows, 0)
    places = {state: at for at, state in enumerate(order)}
    met = [[places[goal] for goal in rows[state]] for state in order]
    classes = _classes(met, [good[state] for state in order], most)
    leads = {classes[at]: [classes[goal] for goal in row] for at, row in enumerate(met)}
    lets = {classes[at]: good[state] for at, state in enumerate(order)}
    return _numbered(letters, leads, lets, classes[0])


def _states_met(rows, first):
    """The list of the states that are met from the first one on, as a walk that goes by letters first meets them."""
    met = {first: True}
    order = [first]
    at = 0
    while at < len(order):
        state = order[at]
        for goal in rows[state]:
            if goal not in met:
                met[goal] = True
                order.append(goal)
        at += 1
    return order


def _numbered(letters, leads, lets, first):
    """The machine with these states, told by dicts, numbered as a walk from the first one meets them."""
    order = _states_met(leads, first)
    places = {state: at for at, state in enumerate(order)}
    rows = tuple([tuple([places[goal] for goal in leads[state]]) for state in order])
    return ("machine", letters, rows, tuple([at for at, state in enumerate(order) if lets[state]]))


def _classes(rows, good, most):
    """A list with the number of the class of each state: states of one class let the same texts from there on."""
    members, numbers = _first_classes(good)
    befores = [_states_before(rows, at) for at in range(len(rows[0]))]
    pending = list(range(len(members)))
    waits = {number: True for number in pending}
    while pending:
        number = pending.pop()
        waits[number] = False
        into = list(members[number])
        for before in befores:
            for new, old in _split(members, numbers, [state for goal in into for state in before[goal]]):
                # What is led into one of two parts tells what is led into the other, so the smaller one will do.
                chosen = new if waits.get(old) or len(members[new]) <= len(members[old]) else old
                pending.append(chosen)
                waits[chosen] = True
        if len(members) > most:
            raise TooMany(most)
    return numbers


def _first_classes(good):
    """The classes, as dicts from states to True, of the good states and of the others, and the number of each state."""
    members = []
    for sign in (True, False):
        found = {state: True for state, told in enumerate(good) if told == sign}
        if found:
            members.append(found)
    return members, [0 if state in members[0] else 1 for state in range(len(good))]


def _states_before(rows, at):
    """A list with, for each state, the list of those that the letter with this number leads to it."""
    found = [[] for _ in rows]
    for state, row in enumerate(rows):
        found[row[at]].append(state)
    return found


def _split(members, numbers, states):
    """Parts states from the others of their classes; tells the pairs of numbers of new classes and old ones."""
    touched = {}
    for state in states:
        touched.setdefault(numbers[state], []).append(state)
    come = []
    for old, parted in touched.items():
        if len(parted) < len(members[old]):
            new = len(members)
            members.append({state: True for state in parted})
            for state in parted:
                del members[old][state]
                numbers[state] = new
            come.append((new, old))
    return come
