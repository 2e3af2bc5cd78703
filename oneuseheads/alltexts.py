"""Whether programs write the same on all texts, and the texts that decide it."""

from oneuseheads.boxes import boxed
from oneuseheads.errors import TooMany
from oneuseheads.programs import may_write, need_pair
from oneuseheads.sums import Span

MOST_PLACES = 4000


def row_basis(one, other):
    """The list of the texts whose rows of numbers are no sums of multiples of those of texts ahead of them."""
    return [text for text, _ in _searched(one, other, False)]


def first_apart(one, other):
    """The first text on which the programs do not write the same, None if there is none."""
    text, same = _searched(one, other, True)[-1]
    return None if same else text


def writes_same(one, other):
    """Whether both programs write the same on all texts."""
    return first_apart(one, other) is None


def _searched(one, other, to_apart):
    """The list of pairs of the texts of the row basis and whether both write the same there.

    If it is only wanted up to the first text on which they do not, it ends there.
    """
    need_pair(one, other)
    machines = (boxed(one), boxed(other))
    for boxes in machines:
        if _count_places(boxes) > MOST_PLACES:
            raise TooMany(MOST_PLACES)
    written = "".join(sorted(set(may_write(one) + may_write(other))))
    # Numbers that stand there twice tell no more than once.
    if machines[0] == machines[1]:
        machines = machines[:1]
    return _basis([BoxReader(boxes, written) for boxes in machines], Shelves(machines), to_apart)


def _basis(readers, shelves, to_apart):
    found = []
    pending = [("", [reader.begun() for reader in readers])]
    at = 0
    while at < len(pending):
        text, standings = pending[at]
        at += 1
        numbers = [reader.numbers(standing) for reader, standing in zip(readers, standings)]
        if shelves.takes_in([row for row, _ in standings], numbers):
            worths = [reader.worth(standing) for reader, standing in zip(readers, standings)]
            found.append((text, worths[0] == worths[-1]))
            if to_apart and worths[0] != worths[-1]:
                return found
            # Behind a sum of multiples there are only sums of multiples, so nothing is read on there.
            for number, letter in enumerate(readers[0].reads):
                come = [reader.read(standing, number) for reader, standing in zip(readers, standings)]
                pending.append((text + letter, come))
    return found


def _count_places(boxes):
    """How many places a row of numbers has for a box machine."""
    return sum([_ways(many) for many, _, _ in boxes[3]])


def _ways(many):
    """How many ways there are to choose 0, 1 or 2 so many times."""
    ways = 1
    for _ in range(many):
        ways *= 3
    return ways


class Shelves:
    """Spans for the rows of numbers of texts, for one box machine or two.

    Where no text leads to two rows of a machine beside one row of the other, directly or by some more of such rows,
    numbers at the places of the one have nothing to do with those of the other: so each has a span of its own.
    """

    def __init__(self, machines):
        roots = _brought_together(machines)
        self._root = {}
        self._start = {}
        self._places = {}
        for which, row in sorted(roots):
            root = _root_of(roots, (which, row))
            start = self._places.get(root, 0)
            self._root[(which, row)] = root
            self._start[(which, row)] = start
            self._places[root] = start + _ways(machines[which][3][row][0])
        self._spans = {root: Span(self._places[root]) for root in self._places}

    def takes_in(self, rows, numbers):
        """Whether a text behind which the machines are in these rows has numbers that are no sum of multiples."""
        root = self._root[(0, rows[0])]
        come = [0] * self._places[root]
        for which, (row, told) in enumerate(zip(rows, numbers)):
            start = self._start[(which, row)]
            come[start:start + len(told)] = told
        return self._spans[root].add(come)


def _brought_together(machines):
    """A dict from all pairs of the number of a machine and of a row to such pairs.

    By it just those are led to one that are brought together by texts.
    """
    roots = {}
    met = {}
    pending = [tuple([0 for _ in machines])]
    while pending:
        rows = pending.pop()
        if rows not in met:
            met[rows] = True
            pairs = list(enumerate(rows))
            for pair in pairs:
                roots.setdefault(pair, pair)
            roots[_root_of(roots, pairs[0])] = _root_of(roots, pairs[-1])
            for number in range(len(machines[0][1])):
                pending.append(tuple([boxes[3][row][1][number][0] for boxes, row in zip(machines, rows)]))
    return roots


def _root_of(roots, pair):
    here = pair
    while roots[here] != here:
        here = roots[here]
    return here


class BoxReader:
    """A box machine that keeps of the text in each box the pair of its power and its worth.

    A standing is a pair of a row and a list of such pairs, one for each box.
    """

    def __init__(self, boxes, written):
        self._boxes = boxes
        self._base = len(written) + 1
        self._digits = {letter: at + 1 for at, letter in enumerate(written)}
        self.reads = boxes[1]

    def begun(self):
        """The standing ahead of all texts."""
        return 0, [self._put_together(text, []) for text in self._boxes[2]]

    def read(self, standing, number):
        """The standing behind the letter with this number."""
        row, held = standing
        goal, fills = self._boxes[3][row][1][number]
        return goal, [self._put_together(fill, held) for fill in fills]

    def worth(self, standing):
        """The worth of what is written here; as no digit is 0, it tells the text."""
        row, held = standing
        _, worth = self._put_together(self._boxes[3][row][2], held)
        return worth

    def _put_together(self, pieces, held):
        power, worth = 1, 0
        for piece in pieces:
            more, low = (self._base, self._digits[piece]) if isinstance(piece, str) else held[piece]
            power *= more
            worth = worth * more + low
        return power, worth

    def numbers(self, standing):
        """The list of the row of numbers at the places of this row of the machine."""
        found = [1]
        for power, worth in standing[1]:
            found = [number * factor for number in found for factor in (1, power, worth)]
        return found
