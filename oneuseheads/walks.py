"""The walk of a program over a text: forward and back between its places, from end to end."""

from oneuseheads.errors import BadNumber
from oneuseheads.kinds import count_ends
from oneuseheads.plain import is_whole
from oneuseheads.programs import need_program, need_read
from oneuseheads.tables import by_end, own_table, put_through, table


def with_tables(program):
    """The head that has the tables of the terms of what is known to be a program."""
    _, kind, init, steps, last = program
    return ("head", kind, table(init), tuple([(letter, table(step)) for letter, step in steps]), table(last))


class Walker:
    """The links by which a head walks over a text."""

    def __init__(self, head, text):
        self.many = count_ends(head[1])
        self._text = text
        self._ahead = by_end(head[4])
        self._at_letters = {letter: by_end(links) for letter, links in head[3]}
        self._behind = by_end(head[2])

    def link(self, place, end):
        """The pair of word and goal at this end of the place, None if it has no link."""
        if place == 0:
            return self._ahead.get(end)
        if place > len(self._text):
            return self._behind.get(end)
        return self._at_letters[self._text[place - 1]].get(end)

    def cross(self, place, goal):
        """The crossing of the way from place to goal, the place to which it leads, and the end that is asked there."""
        if place > len(self._text):
            return (place - 1, goal), place - 1, goal
        if goal >= self.many:
            return (place - 1, goal - self.many), place - 1, goal - self.many
        if place == len(self._text):
            return (place, goal), place + 1, goal
        return (place, goal), place + 1, self.many + goal


def walked(head, text):
    """How the walk of a head over a text that it reads ends, what is written, and what is crossed."""
    walker = Walker(head, text)
    written = []
    crossings = []
    place = 0
    end = walker.many
    link = walker.link(place, end)
    while link is not None:
        word, goal = link
        written.extend([(letter, place) for letter in word])
        if goal is None:
            return ("ends",), tuple(written), tuple(crossings)
        crossing, place, end = walker.cross(place, goal)
        crossings.append(crossing)
        link = walker.link(place, end)
    return ("stuck", place, end), tuple(written), tuple(crossings)


def run(program, text):
    """What program writes on text."""
    written, _ = walk(program, text)
    return "".join([letter for letter, _ in written])


def walk(program, text):
    """The letters that program writes on text, with the places that write them, and the crossings of its walk."""
    need_program(program)
    need_read(program[3], text)
    _, written, crossings = walked(with_tables(program), text)
    return written, crossings


def crossed(program, text, boundary):
    """The tuple of the ends at which the walk crosses this boundary."""
    _, crossings = walk(program, text)
    if not is_whole(boundary) or not 0 <= boundary <= len(text):
        raise BadNumber("this is no boundary of the text")
    return tuple([end for at, end in crossings if at == boundary])


def stretch(program, text):
    """The table of this stretch of text."""
    need_program(program)
    need_read(program[3], text)
    kind = program[1]
    steps = {letter: table(step) for letter, step in program[3]}
    tables = [steps[letter] for letter in text]
    if not tables:
        return own_table(kind)
    while len(tables) > 1:
        tables = _put_in_pairs(kind, tables)
    return tables[0]


def _put_in_pairs(kind, tables):
    """Half as many tables, each of two neighbours: so long words are not written again for each letter."""
    come = [put_through(kind, kind, tables[at], tables[at + 1]) for at in range(0, len(tables) - 1, 2)]
    if len(tables) % 2 == 1:
        come.append(tables[-1])
    return come


class Token:
    """The walk of a program over a text, step by step, forward and back."""

    def __init__(self, program, text):
        need_program(program)
        need_read(program[3], text)
        self._walker = Walker(with_tables(program), text)
        self._over = False
        self._written = []
        self._crossings = []
        self._trail = []
        self.place = 0
        self.end = self._walker.many
        self.done = 0

    def is_over(self):
        """Whether the last step went nowhere."""
        return self._over

    def step(self):
        """Makes a step and tells True, or False if the walk is over."""
        if self._over:
            return False
        word, goal = self._walker.link(self.place, self.end)
        self._trail.append((self.place, self.end, len(self._written)))
        self._written.extend([(letter, self.place) for letter in word])
        if goal is None:
            self._over = True
        else:
            crossing, self.place, self.end = self._walker.cross(self.place, goal)
            self._crossings.append(crossing)
        self.done += 1
        return True

    def back(self):
        """Takes the last step back and tells True, or False at the beginning."""
        if not self._trail:
            return False
        self.place, self.end, many = self._trail.pop()
        while len(self._written) > many:
            self._written.pop()
        if self._over:
            self._over = False
        else:
            self._crossings.pop()
        self.done -= 1
        return True

    def written(self):
        """The letters written so far, with the places that wrote them."""
        return tuple(self._written)

    def crossings(self):
        """The crossings so far."""
        return tuple(self._crossings)
