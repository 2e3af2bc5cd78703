"""Reads wordings word by word, and tells what can stand next.

What is being read is a row of frames, the innermost one last. Each frame tells by expected() what can stand next, by
take() it takes a word or a bracket that was expected, and by receive() what was read in it. A frame that is read is
taken away, and hands what it has read to the one around it.
"""

from oneuseheads.kinds import TEXT
from oneuseheads.plain import ALPHABET
from oneuseheads.terms import MOST_NAME, is_name
from oneuseheads.wanted import bound_by, fits_want, want_of, want_to_call, want_within
from oneuseheads.wanted import wants_call, wants_fun, wants_text

MOST_PROGRAM_ENDS = 30
MOST_STEPS = 4


class Expected:
    """What can stand next: these words, brackets, any name to bind (binds), names of a kind that is wanted (want)."""

    def __init__(self, words, begins=False, ends=False, binds=False, want=None):
        self.words = words
        self.begins = begins
        self.ends = ends
        self.binds = binds
        self.want = want


class Made:
    """A term that was read: its kind, how many nodes it has, and how many in a row."""

    def __init__(self, term, kind, nodes, row):
        self.term = term
        self.kind = kind
        self.nodes = nodes
        self.row = row


class KindFrame:
    """Reads a kind: this one, or, if kind is None, any with at most so many ends."""

    def __init__(self, kind, most):
        self._most = most
        self._ends = 0
        # The kinds that are still to be read, the next one last, None for any; and what was read within brackets.
        self._missing = [kind]
        self._levels = []
        self._begun = False

    def expected(self):
        if self._begun:
            return Expected(("to",))
        if self._levels and len(self._levels[-1]) == 2:
            return Expected((), ends=True)
        kind = self._missing[-1]
        if kind is None:
            return Expected(("text",), begins=self._ends + len(self._missing) < self._most)
        return Expected(("text",)) if kind == TEXT else Expected((), begins=True)

    def take(self, reader, word):
        if word == "(":
            kind = self._missing.pop()
            self._missing.extend([None, None] if kind is None else [kind[2], kind[1]])
            self._levels.append([])
            self._begun = True
        elif word == "to":
            self._begun = False
        elif word == "text":
            self._missing.pop()
            self._ends += 1
            self._finish(reader, TEXT)
        else:
            one, other = self._levels.pop()
            self._finish(reader, ("to", one, other))

    def _finish(self, reader, kind):
        if self._levels:
            self._levels[-1].append(kind)
        else:
            reader.hand_on(kind)


class TermFrame:
    """Reads a term of a kind that is wanted."""

    def __init__(self, want):
        self._want = want
        self._begun = False

    def expected(self):
        words = []
        if self._begun:
            if wants_fun(self._want):
                words.append("fun")
            if wants_text(self._want):
                words.append("put")
            if wants_call(self._want):
                words.append("call")
            return Expected(tuple(words))
        if wants_text(self._want):
            words.append("end")
        # Of each kind there are functions, or puts.
        return Expected(tuple(words), begins=True, want=self._want)

    def take(self, reader, word):
        if word == "(":
            self._begun = True
        elif not self._begun:
            reader.hand_on(self._leaf(reader, word))
        elif word == "fun":
            reader.exchange_frame(FunFrame(self._want))
        elif word == "call":
            reader.exchange_frame(CallFrame())
            reader.add_frame(TermFrame(want_to_call(self._want)))
        else:
            reader.exchange_frame(LetterFrame(ALPHABET, TEXT, True))

    def _leaf(self, reader, word):
        if word == "end":
            return Made(("end",), TEXT, 1, 1)
        return Made(("name", word), reader.use(word), 1, 1)


class FunFrame:
    """Reads a function behind its first word."""

    def __init__(self, want):
        self._want = want
        self._name = None
        self._kind = None
        self._body = None

    def expected(self):
        return Expected((), binds=True) if self._name is None else Expected((), ends=True)

    def take(self, reader, word):
        if self._name is None:
            self._name = word
            kind, most = bound_by(self._want)
            reader.add_frame(KindFrame(kind, most))
        else:
            made = self._body
            term = ("fun", self._name, self._kind, made.term)
            reader.hand_on(Made(term, ("to", self._kind, made.kind), made.nodes + 1, made.row + 1))

    def receive(self, reader, found):
        if self._kind is None:
            self._kind = found
            reader.bind(self._name, found)
            reader.add_frame(TermFrame(want_within(self._want, found)))
        else:
            self._body = found
            reader.unbind(self._name)


class CallFrame:
    """Reads a call behind its first word; what is called is read already when it is looked at first."""

    def __init__(self):
        self._found = []

    def expected(self):
        return Expected((), ends=True)

    def take(self, reader, _):
        one, other = self._found
        term = ("call", one.term, other.term)
        reader.hand_on(Made(term, one.kind[2], one.nodes + other.nodes + 1, 1 + max(one.row, other.row)))

    def receive(self, reader, found):
        self._found.append(found)
        if len(self._found) == 1:
            reader.add_frame(TermFrame(want_of(found.kind[1])))


class LetterFrame:
    """Reads one of these letters, and a term of this kind behind it: what stands in a put, or in a step."""

    def __init__(self, letters, kind, puts):
        self._letters = letters
        self._kind = kind
        self._puts = puts
        self._letter = None
        self._body = None

    def expected(self):
        return Expected(tuple(self._letters)) if self._letter is None else Expected((), ends=True)

    def take(self, reader, word):
        if self._letter is None:
            self._letter = word
            reader.add_frame(TermFrame(want_of(self._kind)))
        elif self._puts:
            made = self._body
            reader.hand_on(Made(("put", self._letter, made.term), TEXT, made.nodes + 1, made.row + 1))
        else:
            reader.hand_on((self._letter, self._body))

    def receive(self, _, found):
        self._body = found


class ProgramFrame:
    """Reads a program; what is handed on is the list of its kind, last, init, and pairs of letters and steps."""

    def __init__(self):
        self._begun = False
        self._found = []

    def expected(self):
        if not self._found:
            return Expected(("program",)) if self._begun else Expected((), begins=True)
        steps = len(self._found) - 3
        return Expected((), begins=steps < MOST_STEPS and self._letters_left() != "", ends=steps > 0)

    def _letters_left(self):
        """The letters that the next step can have."""
        last = self._found[-1][0] if len(self._found) > 3 else ""
        return "".join([letter for letter in ALPHABET if letter > last])

    def take(self, reader, word):
        if word == "program":
            reader.add_frame(KindFrame(None, MOST_PROGRAM_ENDS))
        elif word == ")":
            reader.hand_on(self._found)
        elif self._begun:
            kind = self._found[0]
            reader.add_frame(LetterFrame(self._letters_left(), ("to", kind, kind), False))
        else:
            self._begun = True

    def receive(self, reader, found):
        self._found.append(found)
        kind = self._found[0]
        if len(self._found) == 1:
            reader.add_frame(TermFrame(want_of(("to", kind, TEXT))))
        elif len(self._found) == 2:
            reader.add_frame(TermFrame(want_of(kind)))


class Reader:
    """What is being read, and the names in sight: for each the kinds that it has, the innermost one last.

    In the place of the kind of a name that has been used there is None.
    """

    def __init__(self, names, frame):
        self._names = {name: [kind] for name, kind in names}
        self._frames = [frame]
        self.found = None

    def is_done(self):
        """Whether all is read, so that only blanks can follow."""
        return not self._frames

    def add_frame(self, frame):
        """Goes on to read what this frame reads."""
        self._frames.append(frame)

    def exchange_frame(self, frame):
        """Lets another frame read what the innermost one has begun to read."""
        self._frames[-1] = frame

    def hand_on(self, found):
        """Ends the innermost frame, which has read this."""
        self._frames.pop()
        if self._frames:
            self._frames[-1].receive(self, found)
        else:
            self.found = found

    def bind(self, name, kind):
        """A name is bound from here on."""
        self._names.setdefault(name, []).append(kind)

    def unbind(self, name):
        """What a name was bound to last is not in sight any more."""
        self._names[name].pop()

    def use(self, name):
        """The kind of a name, which is used now."""
        kind = self._names[name].pop()
        self._names[name].append(None)
        return kind

    def expected(self):
        """What can stand next."""
        return self._frames[-1].expected() if self._frames else Expected(())

    def read_word(self, word):
        """Reads a word or a bracket that can stand next."""
        self._frames[-1].take(self, word)

    def can_take(self, word):
        """Whether a word or a bracket can stand next."""
        expected = self.expected()
        if word == "(":
            return expected.begins
        if word == ")":
            return expected.ends
        if word in expected.words or expected.binds and is_name(word):
            return True
        return expected.want is not None and self._is_in_sight(word, expected.want)

    def _is_in_sight(self, name, want):
        kinds = self._names.get(name, [])
        return bool(kinds) and kinds[-1] is not None and fits_want(want, kinds[-1])

    def _words(self, expected):
        """The list of all words that can stand next, but for names to bind."""
        found = list(expected.words)
        if expected.want is not None:
            found.extend([name for name in self._names if self._is_in_sight(name, expected.want)])
        return found

    def longest(self, word):
        """With how many letters of word, from the first one on, some word begins that can stand next."""
        expected = self.expected()
        most = min(len(word), MOST_NAME) if expected.binds else 0
        for other in self._words(expected):
            alike = 0
            while alike < min(len(word), len(other)) and word[alike] == other[alike]:
                alike += 1
            most = max(most, alike)
        return most

    def letters_behind(self, begun):
        """The list of letters that can follow in a word that begins so and can stand next."""
        expected = self.expected()
        found = list(ALPHABET) if expected.binds and len(begun) < MOST_NAME else []
        for other in self._words(expected):
            if other.startswith(begun) and other != begun:
                found.append(other[len(begun)])
        return found

    def word_from(self, begun):
        """A word that begins so and can stand next."""
        if self.can_take(begun):
            return begun
        expected = self.expected()
        if expected.binds:
            return begun + ALPHABET[0]
        return min([other for other in self._words(expected) if other.startswith(begun)])

    def next_word(self):
        """A word or a bracket that can stand next, and leads to the end if such ones are taken again and again."""
        expected = self.expected()
        if expected.ends:
            return ")"
        if expected.binds:
            return ALPHABET[0]
        return expected.words[0] if expected.words else "("
