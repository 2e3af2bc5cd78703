"""What stretches of text do to a walk: the ends and goals of their links, each link with a mark for what it writes.

Marked links are a dict from asked ends to pairs (mark, goal). The mark is the first or the last letter of what is
written along the link, "" if there is none; where only ends and goals are asked for it is always "".
"""

from oneuseheads.ends import end_rows
from oneuseheads.errors import TooMany
from oneuseheads.tables import own_table

MOST_SHAPES = 1000
# How many marked shapes are kept while a long text is read.
MOST_KEPT = 4000


class Marker:
    """Makes the marked links of stretches of text for a head; which tells the marks: "first", "last" or "none"."""

    def __init__(self, head, which):
        kind = head[1]
        self._which = which
        self._rows = end_rows(("to", kind, kind))
        self._many = len(self._rows) // 2
        self.plain = self.marked(own_table(kind))
        self.steps = {letter: self.marked(links) for letter, links in head[3]}

    def marked(self, links):
        """The marked links of a table."""
        return {end: (self.mark(word), goal) for end, word, goal in links}

    def mark(self, word):
        """The mark for what is written."""
        if self._which == "first":
            return word[:1]
        if self._which == "last":
            return word[-1:]
        return ""

    def _both(self, mark, more):
        """The mark for what has one mark and then what has the other one."""
        return mark or more if self._which == "first" else more or mark

    def joined(self, one, other):
        """The marked links of a stretch with those of one and behind it one with those of the other."""
        come = {}
        pending = [len(self._rows) - 1]
        while pending:
            end = pending.pop()
            come[end] = self._way(one, other, end)
            goal = come[end][1]
            if goal is not None:
                pending.extend(self._rows[goal][1])
        return come

    def _way(self, one, other, end):
        """The mark and the goal of the way from this end on, to and fro between both."""
        ahead = end >= self._many
        here = end
        come = ""
        while True:
            mark, goal = one[here] if ahead else other[here]
            come = self._both(come, mark)
            if goal is None or (goal >= self._many) == ahead:
                return come, goal
            here = goal + self._many if ahead else goal - self._many
            ahead = not ahead

    def of_text(self, text):
        """The marked links of a stretch of text."""
        met = {}
        here = self.plain
        for letter in text:
            key = (key_of(here), letter)
            come = met.get(key)
            if come is None:
                come = self.joined(here, self.steps[letter])
                if len(met) < MOST_KEPT:
                    met[key] = come
            here = come
        return here


def key_of(links):
    """The tuple that tells marked links."""
    return tuple([(end, links[end][0], links[end][1]) for end in sorted(links)])


def shape_of_marked(links):
    """The ascending tuple of the ends and goals of marked links."""
    return tuple([(end, links[end][1]) for end in sorted(links)])


class Stretches:
    """All unlike marked links of stretches, numbered from 0 on in the order of their least stretches.

    texts tells for each number the least stretch, links the marked links, moves the list of the numbers to which one
    letter more leads, by letters ascending.
    """

    def __init__(self, marker):
        self.texts = [""]
        self.links = [marker.plain]
        self.moves = []
        # For each but the first one, the number of its stretch without the last letter, and the place of this letter.
        self.begins = []
        numbers = {key_of(marker.plain): 0}
        while len(self.moves) < len(self.texts):
            at = len(self.moves)
            row = []
            for place, letter in enumerate(marker.steps):
                come = marker.joined(self.links[at], marker.steps[letter])
                key = key_of(come)
                if key not in numbers:
                    numbers[key] = len(self.texts)
                    self._add(self.texts[at] + letter, come, (at, place))
                row.append(numbers[key])
            self.moves.append(row)

    def _add(self, text, links, begin):
        self.texts.append(text)
        self.links.append(links)
        self.begins.append(begin)
        if len(self.texts) > MOST_SHAPES:
            raise TooMany(MOST_SHAPES)

    def products(self, number):
        """The list of the numbers of what this one and behind it each one comes to."""
        come = [number]
        for begin, place in self.begins:
            come.append(self.moves[come[begin]][place])
        return come

    def powers(self, products):
        """The least wholes first and round with which powers come again, and the list of the powers up to there.

        products are those of the number whose powers are asked for.
        """
        met = {0: 0}
        found = [0]
        here = products[0]
        while here not in met:
            met[here] = len(found)
            found.append(here)
            here = products[here]
        return met[here], len(found) - met[here], found
