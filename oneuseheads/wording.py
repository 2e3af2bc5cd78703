"""Terms and programs as texts of words and brackets, and how these can go on."""

from oneuseheads.errors import BadKind, BadNames, BadSigns, TooMany
from oneuseheads.kinds import TEXT, is_kind
from oneuseheads.programs import need_program
from oneuseheads.reader import ProgramFrame, Reader, TermFrame
from oneuseheads.terms import MOST_NODES, MOST_ROW, are_names, is_letter, need_term
from oneuseheads.wanted import want_of

BLANKS = ("\n", " ")


def worded(term):
    """The wording of a term."""
    need_term(term)
    return _worded(term)


def _worded(term):
    if term[0] == "name":
        return term[1]
    if term[0] == "end":
        return "end"
    if term[0] == "fun":
        return f"(fun {term[1]} {_kind_worded(term[2])} {_worded(term[3])})"
    if term[0] == "call":
        return f"(call {_worded(term[1])} {_worded(term[2])})"
    return f"(put {term[1]} {_worded(term[2])})"


def _kind_worded(kind):
    if kind == TEXT:
        return "text"
    return f"(to {_kind_worded(kind[1])} {_kind_worded(kind[2])})"


def program_worded(program):
    """The wording of a program."""
    need_program(program)
    _, kind, init, steps, last = program
    parts = [_kind_worded(kind), _worded(last), _worded(init)]
    parts.extend([f"({letter} {_worded(step)})" for letter, step in steps])
    return "(program " + " ".join(parts) + ")"


def read(wording, names=(), kind=None):
    """The term that a right wording tells."""
    reader = _reader_of(wording, names, kind)
    _read_whole(reader, wording)
    return _small(reader.found)


def _reader_of(wording, names, kind):
    """A reader for the terms that have this kind for these names, or any kind if it is None."""
    _need_string(wording)
    if not are_names(names):
        raise BadNames("this is no list of names with their kinds")
    if kind is not None and not is_kind(kind):
        raise BadKind("this is no kind")
    return Reader(names, TermFrame(want_of(kind)))


def _need_string(wording):
    if not isinstance(wording, str):
        raise BadSigns(None)


def _read_on(reader, wording):
    """Reads all words and brackets but a word with which wording ends: tells this one, as it may go on.

    Raises BadSigns unless wording is a beginning.
    """
    at = 0
    while at < len(wording):
        sign = wording[at]
        end = at + 1
        if is_letter(sign):
            end = _end_of_word(wording, at)
            word = wording[at:end]
            if end == len(wording) and reader.longest(word) == len(word):
                return word
            if end == len(wording) or not reader.can_take(word):
                raise BadSigns(at + reader.longest(word))
            reader.read_word(word)
        elif sign in ("(", ")"):
            if not reader.can_take(sign):
                raise BadSigns(at)
            reader.read_word(sign)
        elif sign not in BLANKS:
            raise BadSigns(at)
        at = end
    return ""


def _end_of_word(wording, begin):
    end = begin
    while end < len(wording) and is_letter(wording[end]):
        end += 1
    return end


def _read_whole(reader, wording):
    """Raises BadSigns unless wording is a right one."""
    word = _read_on(reader, wording)
    if word != "" and reader.can_take(word):
        reader.read_word(word)
    elif word != "":
        raise BadSigns(len(wording))
    if not reader.is_done():
        raise BadSigns(len(wording))


def _small(made):
    """The term that was read; raises TooMany if it is too great."""
    if made.nodes > MOST_NODES:
        raise TooMany(MOST_NODES)
    if made.row > MOST_ROW:
        raise TooMany(MOST_ROW)
    return made.term


def completed(wording, names=(), kind=None):
    """A right wording that begins with this one."""
    reader = _reader_of(wording, names, kind)
    begun = _read_on(reader, wording)
    parts = [wording]
    after_word = begun != ""
    if begun != "":
        word = reader.word_from(begun)
        reader.read_word(word)
        parts.append(word[len(begun):])
    while not reader.is_done():
        word = reader.next_word()
        reader.read_word(word)
        is_word = is_letter(word[0])
        # Between two words there must be a blank.
        if is_word and after_word:
            parts.append(" ")
        parts.append(word)
        after_word = is_word
    return "".join(parts)


def offers(wording, names=(), kind=None):
    """The ascending list of the characters that can follow."""
    reader = _reader_of(wording, names, kind)
    begun = _read_on(reader, wording)
    found = reader.letters_behind(begun)
    if begun != "":
        if not reader.can_take(begun):
            return sorted(set(found))
        reader.read_word(begun)
    found.extend([sign for sign in ("(", ")") if reader.can_take(sign)])
    return sorted(set([*found, *BLANKS]))


def read_program(wording):
    """The program that a right wording tells."""
    _need_string(wording)
    reader = Reader((), ProgramFrame())
    _read_whole(reader, wording)
    kind, last, init, *steps = reader.found
    ended, begun = _small(last), _small(init)
    told = tuple([(letter, _small(made)) for letter, made in steps])
    return ("program", kind, begun, told, ended)
