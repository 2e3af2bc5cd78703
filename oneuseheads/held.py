"""A text that is held so that it can be edited, and what a program writes on it."""

from oneuseheads.errors import BadNumber, BadText
from oneuseheads.plain import is_below
from oneuseheads.programs import letters_of, need_program, need_read
from oneuseheads.ropes import Roper
from oneuseheads.tables import by_end
from oneuseheads.terms import is_letter
from oneuseheads.walks import walked, with_tables


def _need_below(value, bound):
    if not is_below(value, bound):
        raise BadNumber("this is no number within its bounds")


class Held:
    """A text and what a program writes on it, whatever is put into the text and taken out of it."""

    def __init__(self, program, text):
        need_program(program)
        need_read(program[3], text)
        self._program = program
        self._head = with_tables(program)
        self._roper = Roper(self._head)
        self._set(text, self._roper.rope_of(text))

    def _set(self, text, rope):
        """Holds another text; what was found of the one ahead of it does not hold for it."""
        self._text = text
        self._rope = rope
        self._told = None
        self._origins = None
        self._met = None

    def letters(self):
        """The text."""
        return self._text

    def length(self):
        """How many letters the text has."""
        return len(self._text)

    def size(self):
        """How many letters are written."""
        return len(self.written())

    def made(self):
        """How many tables were made so far."""
        return self._roper.tables_made

    def put_in(self, at, more):
        """Puts more behind the first at letters."""
        _need_below(at, len(self._text) + 1)
        need_read(self._head[3], more)
        one, other = self._roper.cut(self._rope, at)
        inner = self._roper.joined(one, self._roper.rope_of(more))
        self._set(self._text[:at] + more + self._text[at:], self._roper.joined(inner, other))

    def take_out(self, at, many):
        """Takes many letters out, behind the first at ones."""
        _need_below(at, len(self._text) + 1)
        _need_below(many, len(self._text) - at + 1)
        one, others = self._roper.cut(self._rope, at)
        _, other = self._roper.cut(others, many)
        self._set(self._text[:at] + self._text[at + many:], self._roper.joined(one, other))

    def exchange(self, at, letter):
        """Exchanges the letter behind the first at ones for this one."""
        _need_below(at, len(self._text))
        if not is_letter(letter) or letter not in letters_of(self._head[3]):
            raise BadText("this is no letter that is read")
        rope = self._roper.exchanged(self._rope, at, letter)
        self._set(self._text[:at] + letter + self._text[at + 1:], rope)

    def copy(self):
        """A Held of its own with the same program and text; it shares the tables that are made already."""
        come = Held(self._program, "")
        come._set(self._text, self._rope)
        return come

    def written(self):
        """What is written."""
        if self._told is None:
            self._told = self._roper.written(self._rope)
        return self._told

    def piece(self, begin, end):
        """The letters written at the spots from begin on, below end."""
        _need_below(begin, self.size() + 1)
        _need_below(end, self.size() + 1)
        if end < begin:
            raise BadNumber("this piece ends ahead of where it begins")
        return self.written()[begin:end]

    def _walk(self):
        """Walks over the text, once for each text, to find where what is written is from."""
        if self._origins is None:
            _, written, crossings = walked(self._head, self._text)
            self._origins = [place for _, place in written]
            self._met = {}
            place = 0
            for boundary, _ in crossings:
                # The boundary is either the one behind this place or the one ahead of it.
                place = place + 1 if boundary == place else boundary
                self._met[place] = True

    def origin(self, spot):
        """The place that wrote the letter at this spot."""
        _need_below(spot, self.size())
        self._walk()
        return self._origins[spot]

    def spots(self, place):
        """The ascending list of the spots that this place wrote."""
        _need_below(place, len(self._text) + 2)
        self._walk()
        return [spot for spot, wrote in enumerate(self._origins) if wrote == place]

    def unread(self):
        """The ascending list of the places of letters to which the walk never comes."""
        self._walk()
        return [place for place in range(1, len(self._text) + 1) if place not in self._met]

    def cuts(self, at):
        """The triples of side, begin and end of the stretches that the walk makes without crossing the boundary."""
        _need_below(at, len(self._text) + 1)
        sides = [("ahead", by_end(self.ahead(at))), ("behind", by_end(self.behind(at)))]
        found = []
        begin = 0
        goal = self._roper.many
        while goal is not None:
            name, links = sides[len(found) % 2]
            word, goal = links[goal]
            found.append((name, begin, begin + len(word)))
            begin += len(word)
        return found

    def ahead(self, at):
        """The table of what the last term and the steps of the first at letters are together."""
        _need_below(at, len(self._text) + 1)
        return self._roper.ahead(self._rope, at)

    def behind(self, at):
        """The table of what the steps of the letters behind the first at ones make of init."""
        _need_below(at, len(self._text) + 1)
        return self._roper.behind(self._rope, at)
