"""Whether programs write the same letters from the same places, and what is written ahead of a boundary."""

from itertools import permutations

from oneuseheads.ends import end_rows
from oneuseheads.errors import TooMany
from oneuseheads.programs import letters_of, need_pair, need_program, need_read
from oneuseheads.walks import Walker, walk, walked, with_tables

MOST_LINKS = 4
MOST_STANDINGS = 400


def left_links(program, text):
    """The left table of program at text, its words told with the places from which their letters are."""
    need_program(program)
    need_read(program[3], text)
    return _left_links(with_tables(program), text)


def _left_links(head, text):
    walker = Walker(head, text)
    rows = end_rows(head[1])
    found = []
    pending = [walker.many]
    while pending:
        end = pending.pop()
        written, goal = _left_way(walker, len(text), end)
        found.append((end, written, goal))
        if goal is not None:
            pending.extend(rows[goal][1])
    return tuple(sorted(found, key=lambda link: link[0]))


def _left_way(walker, length, end):
    """What is written from this end of a left table on, until the walk leaves the last place to what is behind it."""
    place = 0 if end == walker.many else length
    here = end
    written = []
    while place <= length:
        word, goal = walker.link(place, here)
        written.extend([(letter, place) for letter in word])
        if goal is None:
            return tuple(written), None
        _, place, here = walker.cross(place, goal)
    return tuple(written), here


def alike(one, other):
    """Whether both programs write the same letters with the same origins on all texts."""
    return first_unlike(one, other) is None


def first_unlike(one, other):
    """The first text on which the programs do not write alike, None if there is none."""
    need_pair(one, other)
    heads = (with_tables(one), with_tables(other))
    met = {}
    texts = [""]
    at = 0
    while at < len(texts):
        text = texts[at]
        at += 1
        standing = _joint_standing(heads, text)
        if standing not in met:
            met[standing] = True
            if len(met) > MOST_STANDINGS:
                raise TooMany(MOST_STANDINGS)
            if not _are_alike_on(heads, text):
                return text
            # Behind a standing that was met before, nothing is new.
            texts.extend([text + letter for letter in letters_of(one[3])])
    return None


def _are_alike_on(heads, text):
    _, one, _ = walked(heads[0], text)
    _, other, _ = walked(heads[1], text)
    return one == other


def _joint_standing(heads, text):
    links = [_left_links(head, text) for head in heads]
    if any([len(table) > MOST_LINKS for table in links]):
        raise TooMany(MOST_LINKS)
    ones, others = [_written_by_rows(table) for table in links]
    same = sorted([(ones[word], others[word]) for word in ones if word in others])
    return _without_words(links[0]), _without_words(links[1]), tuple(same)


def _without_words(links):
    """The ends and goals of left links, and which of them write nothing."""
    return tuple([(end, goal, written == ()) for end, written, goal in links])


def _written_by_rows(links):
    """A dict from what is written along rows of unlike ends to the tuple of all these rows."""
    # Links that write nothing are told of themselves, so a standing is told by the rows without them.
    words = {end: _with_places(written) for end, written, _ in links if written}
    ends = sorted(words)
    found = {}
    for many in range(len(ends) + 1):
        for row in permutations(ends, many):
            found.setdefault("".join([words[end] for end in row]), []).append(row)
    return {word: tuple(rows) for word, rows in found.items()}


def _with_places(written):
    return "".join([f"{letter}{place}" for letter, place in written])


def origins(program, text):
    """The tuple of the texts that are written at each place."""
    written, _ = walk(program, text)
    found = [[] for _ in range(len(text) + 2)]
    for letter, place in written:
        found[place].append(letter)
    return tuple(["".join(word) for word in found])
