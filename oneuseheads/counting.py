"""How often letters are written, on one text and on all texts."""

from oneuseheads.boxes import boxed
from oneuseheads.errors import TooMany
from oneuseheads.programs import may_write, need_pair
from oneuseheads.sums import is_no_sum
from oneuseheads.walks import walk

MOST_PAIRS = 400


def counts(program, text):
    """The dict from the letters that program writes on text to how many of each it writes."""
    written, _ = walk(program, text)
    found = {}
    for letter in sorted([letter for letter, _ in written]):
        found[letter] = found.get(letter, 0) + 1
    return found


def counts_alike(one, other):
    """Whether both programs write each letter equally often, on all texts."""
    return counts_parted(one, other) is None


def counts_parted(one, other):
    """One of the shortest texts on which some letter is not written equally often, and this letter; None if none is."""
    need_pair(one, other)
    # A box holds what a link of the left table writes, and there is a row for each left table without words.
    machines = (boxed(one), boxed(other))
    _need_few_pairs(machines)
    found = None
    for letter in sorted(set(may_write(one) + may_write(other))):
        text = _first_parted(machines, letter)
        if text is not None and (found is None or len(text) < len(found[0])):
            found = (text, letter)
    return found


def _need_few_pairs(machines):
    """Raises TooMany if more than 400 pairs of rows are met."""
    one, other = machines
    met = {(0, 0): True}
    pending = [(0, 0)]
    while pending:
        first, second = pending.pop()
        for (goal, _), (beside, _) in zip(one[3][first][1], other[3][second][1]):
            if (goal, beside) not in met:
                met[(goal, beside)] = True
                pending.append((goal, beside))
        if len(met) > MOST_PAIRS:
            raise TooMany(MOST_PAIRS)


def _first_parted(machines, letter):
    """The first text on which the letter is not written equally often, None if there is none."""
    reduced = {}
    pending = [("", [(0, [text.count(letter) for text in boxes[2]]) for boxes in machines])]
    at = 0
    while at < len(pending):
        text, standings = pending[at]
        at += 1
        (first, ones), (second, others) = standings
        if is_no_sum(reduced.setdefault((first, second), []), [1, *ones, *others]):
            one, other = [_written(boxes, standing, letter) for boxes, standing in zip(machines, standings)]
            if one != other:
                return text
            for number, read in enumerate(machines[0][1]):
                come = [_led(boxes, standing, number, letter) for boxes, standing in zip(machines, standings)]
                pending.append((text + read, come))
    return None


def _counted(pieces, held, letter):
    """How often the letter stands in what these pieces tell, where the boxes hold it so often."""
    return sum([int(piece == letter) if isinstance(piece, str) else held[piece] for piece in pieces])


def _written(boxes, standing, letter):
    row, held = standing
    return _counted(boxes[3][row][2], held, letter)


def _led(boxes, standing, number, letter):
    """The row and how often the letter stands in each of its boxes, behind the letter that has this number."""
    row, held = standing
    goal, fills = boxes[3][row][1][number]
    return goal, [_counted(fill, held, letter) for fill in fills]
