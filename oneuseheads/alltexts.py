"""Whether programs write the same on all texts, and the texts that decide it."""

from oneuseheads.boxes import boxed
from oneuseheads.errors import TooMany
from oneuseheads.programs import letters_of, may_write, need_pair
from oneuseheads.sums import PRIME, Span

MOST_PLACES = 4000


def row_basis(one, other):
    """The list of the texts whose rows of numbers are no sums of multiples of those of texts ahead of them."""
    return [text for text, _ in _searched(one, other, False)]


def first_apart(one, other):
    """The first text on which the programs do not write the same, None if there is none."""
    text, same = _searched(one, other, True)[-1]
    return None if same else text


def writes_same(one, other):
    """Whether both programs write the same on all texts."""
    return first_apart(one, other) is None


def _searched(one, other, to_apart):
    """The list of pairs of the texts of the row basis and whether both write the same there.

    If it is only wanted up to the first text on which they do not, it ends there.
    """
    need_pair(one, other)
    machines = (boxed(one), boxed(other))
    for boxes in machines:
        if _count_places(boxes) > MOST_PLACES:
            raise TooMany(MOST_PLACES)
    written = "".join(sorted(set(may_write(one) + may_write(other))))
    readers = [Reader(machines[0], written, 0)]
    # Numbers that stand there twice tell no more than once.
    if machines[0] != machines[1]:
        readers.append(Reader(machines[1], written, _count_places(machines[0])))
    return _basis(readers, letters_of(one[3]), to_apart)


def _basis(readers, letters, to_apart):
    span = Span()
    found = []
    pending = [("", [reader.begun() for reader in readers])]
    at = 0
    while at < len(pending):
        text, standings = pending[at]
        at += 1
        if span.add([reader.numbers(standing) for reader, standing in zip(readers, standings)]):
            worths = [reader.worth(standing) for reader, standing in zip(readers, standings)]
            found.append((text, worths[0] == worths[-1]))
            if to_apart and worths[0] != worths[-1]:
                return found
            # Behind a sum of multiples there are only sums of multiples, so nothing is read on there.
            for number, letter in enumerate(letters):
                come = [reader.read(standing, number) for reader, standing in zip(readers, standings)]
                pending.append((text + letter, come))
    return found


def _count_places(boxes):
    """How many places a row of numbers has for a box machine."""
    return sum([_ways(many) for many, _, _ in boxes[3]])


def _ways(many):
    """How many ways there are to choose 0, 1 or 2 so many times."""
    ways = 1
    for _ in range(many):
        ways *= 3
    return ways


class Reader:
    """A box machine that keeps of the text in each box the pair of its power and its worth.

    A standing is a pair of a row and a list of such pairs, one for each box.
    """

    def __init__(self, boxes, letters, start):
        self._boxes = boxes
        self._base = len(letters) + 1
        self._digits = {letter: at + 1 for at, letter in enumerate(letters)}
        self._starts = []
        place = start
        for many, _, _ in boxes[3]:
            self._starts.append(place)
            place += _ways(many)

    def begun(self):
        """The standing ahead of all texts."""
        return 0, [self._put_together(text, []) for text in self._boxes[2]]

    def read(self, standing, number):
        """The standing behind the letter with this number."""
        row, held = standing
        goal, fills = self._boxes[3][row][1][number]
        return goal, [self._put_together(fill, held) for fill in fills]

    def worth(self, standing):
        """The worth of what is written here; as no digit is 0, it tells the text."""
        row, held = standing
        _, worth = self._put_together(self._boxes[3][row][2], held)
        return worth

    def _put_together(self, pieces, held):
        power, worth = 1, 0
        for piece in pieces:
            more, low = (self._base, self._digits[piece]) if isinstance(piece, str) else held[piece]
            power *= more
            worth = worth * more + low
        return power, worth

    def numbers(self, standing):
        """The place at which the numbers of this row begin, and the list of what they leave, as a span wants it."""
        row, held = standing
        found = [1]
        for power, worth in held:
            factors = (1, power % PRIME, worth % PRIME)
            found = [number * factor % PRIME for number in found for factor in factors]
        return self._starts[row], found
