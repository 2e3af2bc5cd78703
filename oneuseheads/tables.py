"""Tables: what closed terms are, as links between the ends of their kinds."""

from oneuseheads.ends import end_rows
from oneuseheads.errors import BadTable, BadTerm, TooMany
from oneuseheads.kinds import MOST_ENDS, TEXT, count_ends, need_function_kind, need_kind
from oneuseheads.plain import is_whole, name_in_row
from oneuseheads.terms import MOST_NODES, MOST_ROW, is_closed, is_text

MOST_BARE = 2000


def is_loose(kind, value):
    """Whether value is an ascending tuple of links of kind, in which no end and no goal but None stands twice."""
    if not isinstance(value, tuple):
        return False
    asked = [row[0] for row in end_rows(kind)]
    goals = {}
    last = -1
    for link in value:
        if not _is_link(asked, link) or link[0] <= last or link[2] in goals:
            return False
        last = link[0]
        if link[2] is not None:
            goals[link[2]] = True
    return True


def _is_link(asked, value):
    if not isinstance(value, tuple) or len(value) != 3 or not is_text(value[1]):
        return False
    return _is_end(asked, True, value[0]) and (value[2] is None or _is_end(asked, False, value[2]))


def _is_end(asked, sign, value):
    return is_whole(value) and 0 <= value < len(asked) and asked[value] == sign


def is_table(kind, value):
    """Whether value is a table of kind."""
    need_kind(kind)
    return is_right_table(kind, value)


def is_right_table(kind, value):
    """Whether value is a table of what is known to be a kind."""
    return is_loose(kind, value) and _reads_back(end_rows(kind), value)


def _reads_back(rows, links):
    """Whether links, of which no two have one goal, read back."""
    goals = {end: goal for end, _, goal in links}
    read = 0
    pending = [(len(rows) - 1, ())]
    while pending:
        end, around = pending.pop()
        if end not in goals:
            return False
        read += 1
        goal = goals[end]
        free = around + rows[end][1]
        if goal is not None:
            if goal not in free:
                return False
            pending.extend([(part, free) for part in rows[goal][1]])
    return read == len(links)


def need_table(kind, value):
    """Raises BadTable unless value is a table of what is known to be a kind."""
    if not is_right_table(kind, value):
        raise BadTable("this is no table of the kind")


def by_end(links):
    """The dict from the end of each link to the pair of its word and its goal."""
    return {end: (word, goal) for end, word, goal in links}


def read_back(kind, table):
    """The term that is read from a table."""
    need_kind(kind)
    need_table(kind, table)
    rows = end_rows(kind)
    links = by_end(table)
    nodes, row = _weigh(rows, links, len(rows) - 1)
    if nodes > MOST_NODES:
        raise TooMany(MOST_NODES)
    if row > MOST_ROW:
        raise TooMany(MOST_ROW)
    return _read(rows, links, len(rows) - 1)


def _weigh(rows, links, end):
    """How many nodes, and how many in a row, the term has that is read at end."""
    word, goal = links[end]
    ahead = len(rows[end][1]) + len(word)
    nodes = ahead + 1
    row = 1
    if goal is not None:
        calls = len(rows[goal][1])
        nodes += calls
        for at, part in enumerate(rows[goal][1]):
            more, deep = _weigh(rows, links, part)
            nodes += more
            # What is handed on first stands in all the calls, what is handed on last in one.
            row = max(row, calls - at + deep)
    return nodes, ahead + row


def _read(rows, links, end):
    word, goal = links[end]
    come = ("end",)
    if goal is not None:
        come = ("name", name_in_row(goal))
        for part in rows[goal][1]:
            come = ("call", come, _read(rows, links, part))
    for letter in reversed(word):
        come = ("put", letter, come)
    for part in reversed(rows[end][1]):
        come = ("fun", name_in_row(part), rows[part][2], come)
    return come


class Wires:
    """Ways on which texts are asked for. A thing of a kind is laid as a tuple of places, one for each end."""

    def __init__(self):
        self.ways = {}
        self.many = 0

    def new_places(self, kind):
        """Places from which no way leads on, for a thing of this kind."""
        first = self.many
        self.many += count_ends(kind)
        return tuple(range(first, self.many))

    def lay_way(self, word, place):
        """The place from which a way leads on to the other place, or to None, and on it the word is written."""
        come = self.new_places(TEXT)
        self.ways[come[0]] = (word, place)
        return come

    def lay_table(self, kind, links):
        """The places of a thing with these links."""
        places = self.new_places(kind)
        for end, word, goal in links:
            self.ways[places[end]] = (word, None if goal is None else places[goal])
        return places

    def lay_call(self, one, kind, handed):
        """The places of what comes if the thing at one is called with that at handed, which is of this kind."""
        for end, row in enumerate(end_rows(kind)):
            if row[0]:
                self.ways[one[end]] = ("", handed[end])
            else:
                self.ways[handed[end]] = ("", one[end])
        return one[len(handed):]

    def follow(self, place):
        """What is written on the way from place on, and the place, or None, at which it ends."""
        words = []
        here = place
        while here in self.ways:
            word, here = self.ways[here]
            words.append(word)
        return "".join(words), here

    def table_of(self, kind, places):
        """The table of the thing of this kind that is laid at places."""
        rows = end_rows(kind)
        ends = {places[end]: end for end, row in enumerate(rows) if not row[0]}
        links = []
        pending = [len(rows) - 1]
        while pending:
            end = pending.pop()
            word, place = self.follow(places[end])
            goal = None if place is None else ends[place]
            links.append((end, word, goal))
            if goal is not None:
                pending.extend(rows[goal][1])
        return tuple(sorted(links, key=lambda link: link[0]))


def table(term):
    """The table of a closed term."""
    if not is_closed(term):
        raise BadTerm("this is no closed term")
    wires = Wires()
    kind, places = _laid(term, {}, wires)
    return wires.table_of(kind, places)


def _laid(term, names, wires):
    """The kind of term and the places at which it is laid, names being a dict from names to such pairs."""
    word = term[0]
    if word == "name":
        return names[term[1]]
    if word == "fun":
        _, name, told, body = term
        bound = wires.new_places(told)
        kind, places = _laid(body, {**names, name: (told, bound)}, wires)
        return ("to", told, kind), bound + places
    if word == "call":
        kind, places = _laid(term[1], names, wires)
        _, handed = _laid(term[2], names, wires)
        return kind[2], wires.lay_call(places, kind[1], handed)
    if word == "put":
        _, places = _laid(term[2], names, wires)
        return TEXT, wires.lay_way(term[1], places[0])
    return TEXT, wires.lay_way("", None)


def need_double_kind(kind):
    """Raises BadKind unless kind is a kind, and TooMany unless there are functions from it to itself."""
    need_kind(kind)
    if 2 * count_ends(kind) > MOST_ENDS:
        raise TooMany(MOST_ENDS)


def own_table(kind):
    """The table of the function that is what it is handed."""
    need_double_kind(kind)
    wires = Wires()
    handed = wires.new_places(kind)
    return wires.table_of(("to", kind, kind), handed + handed)


def called(kind, table, argument):
    """The table of what comes if a thing of kind, with the one table, is called with one with the other table."""
    need_function_kind(kind)
    need_table(kind, table)
    need_table(kind[1], argument)
    return call_table(kind, table, argument)


def call_table(kind, one, other):
    """As called, of what are known to be a kind and tables."""
    wires = Wires()
    called_one = wires.lay_table(kind, one)
    handed = wires.lay_table(kind[1], other)
    return wires.table_of(kind[2], wires.lay_call(called_one, kind[1], handed))


def through(kind, one, other):
    """The table of the function that is one of what other is of what it is handed."""
    need_double_kind(kind)
    need_table(("to", kind, kind), one)
    need_table(("to", kind, kind), other)
    return put_through(kind, kind, one, other)


def put_through(kind, result, one, other):
    """As through, of what are known to be kinds and tables; what one makes of the kind may be of another kind."""
    wires = Wires()
    handed = wires.new_places(kind)
    inner = wires.lay_call(wires.lay_table(("to", kind, kind), other), kind, handed)
    outer = wires.lay_call(wires.lay_table(("to", kind, result), one), kind, inner)
    return wires.table_of(("to", kind, result), handed + outer)


def bare_tables(kind):
    """The list of all tables of kind whose words are empty."""
    need_kind(kind)
    rows = end_rows(kind)
    found = []
    pending = [((), ((len(rows) - 1, ()),))]
    while pending:
        links, unread = pending.pop()
        if unread:
            pending.extend(_read_on(rows, links, unread))
        else:
            found.append(tuple(sorted(links, key=lambda link: link[0])))
        # All that is pending becomes a table or more.
        if len(found) + len(pending) > MOST_BARE:
            raise TooMany(MOST_BARE)
    return sorted(found, key=_ends_and_goals)


def _read_on(rows, links, unread):
    """What links and unread, ends with what is free around them, can be when the first of unread has been read."""
    end, around = unread[0]
    free = around + rows[end][1]
    used = [link[2] for link in links]
    come = [((*links, (end, "", None)), unread[1:])]
    for goal in free:
        if goal not in used:
            behind = tuple([(part, free) for part in rows[goal][1]])
            come.append(((*links, (end, "", goal)), behind + unread[1:]))
    return come


def _ends_and_goals(links):
    return [(end, -1 if goal is None else goal) for end, _, goal in links]
