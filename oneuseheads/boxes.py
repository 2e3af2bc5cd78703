"""Box machines: one reading of a text from left to right, with boxes whose contents are each used at most once."""

from oneuseheads.errors import BadBoxes, BadText
from oneuseheads.fronts import closed_front, rows_of_fronts
from oneuseheads.kinds import count_ends
from oneuseheads.languages import are_letters
from oneuseheads.plain import is_below
from oneuseheads.programs import letters_of, need_program
from oneuseheads.terms import is_letter, is_text, is_text_of
from oneuseheads.walks import with_tables

MOST_ROWS = 400
MOST_BOXES = 60


def is_boxes(value):
    """Whether value is a box machine."""
    if not isinstance(value, tuple) or len(value) != 4 or value[0] != "boxes":
        return False
    _, letters, begun, rows = value
    if not are_letters(letters) or not isinstance(begun, tuple) or not all([is_text(text) for text in begun]):
        return False
    if not isinstance(rows, tuple) or not 1 <= len(rows) <= MOST_ROWS:
        return False
    if not all([isinstance(row, tuple) and len(row) == 3 and is_below(row[0], MOST_BOXES + 1) for row in rows]):
        return False
    if rows[0][0] != len(begun):
        return False
    sizes = [row[0] for row in rows]
    return all([_is_row(row, len(letters), sizes) for row in rows])


def _is_row(row, letters, sizes):
    """Whether a row fits so many letters, sizes being the list of the numbers of boxes of all rows."""
    many, moves, out = row
    if not isinstance(moves, tuple) or len(moves) != letters:
        return False
    return all([_is_move(many, move, sizes) for move in moves]) and _are_pieces(many, (out,))


def _is_move(many, move, sizes):
    if not isinstance(move, tuple) or len(move) != 2:
        return False
    goal, fills = move
    if not is_below(goal, len(sizes)) or not isinstance(fills, tuple) or len(fills) != sizes[goal]:
        return False
    return _are_pieces(many, fills)


def _are_pieces(many, fills):
    """Whether fills are tuples of pieces, each of many boxes at most once in all of them."""
    used = {}
    for fill in fills:
        if not isinstance(fill, tuple):
            return False
        for piece in fill:
            if not is_letter(piece):
                if not is_below(piece, many) or piece in used:
                    return False
                used[piece] = True
    return True


def _need_read(boxes, text):
    if not is_boxes(boxes):
        raise BadBoxes("this is no box machine")
    if not is_text_of(boxes[1], text):
        raise BadText("this is no text of the box machine's letters")


def box_contents(boxes, text):
    """The row behind text, and the list of the texts in its boxes."""
    _need_read(boxes, text)
    row, fills = _read(boxes, text)
    return row, [_told(boxes, fills, [box]) for box in range(boxes[3][row][0])]


def box_text(boxes, text):
    """What a box machine writes on text."""
    _need_read(boxes, text)
    row, fills = _read(boxes, text)
    return _told(boxes, fills, boxes[3][row][2])


def _read(boxes, text):
    """The row behind text, and the list of the fills of all letters."""
    numbers = {letter: at for at, letter in enumerate(boxes[1])}
    row = 0
    fills = []
    for letter in text:
        row, told = boxes[3][row][1][numbers[letter]]
        fills.append(told)
    return row, fills


def _told(boxes, fills, pieces):
    """What these pieces tell behind all fills; what is in boxes that are not asked for is never put together."""
    words = []
    pending = [(len(fills), piece) for piece in reversed(pieces)]
    while pending:
        at, piece = pending.pop()
        if isinstance(piece, str):
            words.append(piece)
        elif at == 0:
            words.append(boxes[2][piece])
        else:
            pending.extend([(at - 1, inner) for inner in reversed(fills[at - 1][piece])])
    return "".join(words)


def boxed(program):
    """The box machine that writes what program writes."""
    need_program(program)
    head = with_tables(program)
    many = count_ends(head[1])
    rows = rows_of_fronts(head, MOST_ROWS)
    orders = [sorted(row.front) for row in rows]
    told = []
    for row, order in zip(rows, orders):
        numbers = {end: at for at, end in enumerate(order)}
        moves = []
        for goal, led in row.moves:
            moves.append((goal, tuple([_pieces(numbers, led[end][0]) for end in orders[goal]])))
        out = _pieces(numbers, closed_front(head, many, row.front))
        told.append((len(order), tuple(moves), out))
    return ("boxes", letters_of(head[3]), tuple([word for _, word, _ in head[4]]), tuple(told))


def _pieces(numbers, found):
    """The tuple of pieces of a box machine, numbers telling those of the boxes by ends."""
    pieces = []
    for piece in found:
        if isinstance(piece, str):
            pieces.extend(list(piece))
        else:
            pieces.append(numbers[piece])
    return tuple(pieces)
