"""Programs: a term to begin with, one for each letter, and one that makes a text of what comes."""

from oneuseheads.errors import BadProgram, BadText, OtherLetters, TooMany
from oneuseheads.kinds import MOST_ENDS, TEXT, count_ends, is_kind
from oneuseheads.terms import MOST_NODES, MOST_ROW, is_closed_of, is_letter, is_text_of, parts_in, row_in

MOST_STEPS = 4


def is_program(value):
    """Whether value is a program."""
    return is_made_of("program", is_closed_of, value)


def is_made_of(word, fits, value):
    """Whether value is made as programs are, with this word, and with what fits the kinds in the terms' places."""
    if not isinstance(value, tuple) or len(value) != 5 or value[0] != word:
        return False
    kind = value[1]
    if not is_kind(kind) or 2 * count_ends(kind) > MOST_ENDS:
        return False
    if not fits(kind, value[2]) or not fits(("to", kind, TEXT), value[4]):
        return False
    return _are_letters(value[3]) and all([fits(("to", kind, kind), step) for _, step in value[3]])


def _are_letters(value):
    """Whether value is a tuple of pairs of which the first items are letters as those of programs."""
    if not isinstance(value, tuple) or not 1 <= len(value) <= MOST_STEPS:
        return False
    last = ""
    for pair in value:
        if not isinstance(pair, tuple) or len(pair) != 2 or not is_letter(pair[0]) or pair[0] <= last:
            return False
        last = pair[0]
    return True


def need_program(program):
    """Raises BadProgram unless program is a program."""
    if not is_program(program):
        raise BadProgram("this is no program")


def letters(program):
    """The text of the letters that program reads."""
    need_program(program)
    return letters_of(program[3])


def letters_of(steps):
    """The text of the letters that have these steps."""
    return "".join([letter for letter, _ in steps])


def need_same_letters(one, other):
    """Raises OtherLetters unless both programs read the same letters."""
    if letters_of(one[3]) != letters_of(other[3]):
        raise OtherLetters("these programs read unlike letters")


def need_pair(one, other):
    """Raises BadProgram unless both are programs, and OtherLetters unless they read the same letters."""
    need_program(one)
    need_program(other)
    need_same_letters(one, other)


def may_write(program):
    """The text of the letters, ascending, of all puts in the terms of what is known to be a program."""
    _, _, init, steps, last = program
    found = {}
    for term in [init, last] + [step for _, step in steps]:
        for _, part in parts_in(term):
            if part[0] == "put":
                found[part[1]] = True
    return "".join(sorted(found))


def need_read(steps, text):
    """Raises BadText unless text is one of the letters that have these steps."""
    if not is_text_of(letters_of(steps), text):
        raise BadText("this is no text of the letters that are read")


def term_of(program, text):
    """The term whose normal form is the text that program writes on text."""
    need_program(program)
    need_read(program[3], text)
    _need_small(program, text)
    terms = {letter: step for letter, step in program[3]}
    come = program[2]
    for letter in reversed(text):
        come = ("call", terms[letter], come)
    return ("call", program[4], come)


def _need_small(program, text):
    """Raises TooMany if what term_of would build is too great for a term; it is not built for this."""
    nodes = {letter: len(parts_in(step)) for letter, step in program[3]}
    told = sum([nodes[letter] * text.count(letter) for letter in nodes])
    if told + len(parts_in(program[4])) + len(parts_in(program[2])) + len(text) + 1 > MOST_NODES:
        raise TooMany(MOST_NODES)
    rows = {letter: row_in(step) for letter, step in program[3]}
    called = [row_in(program[4])] + [rows[letter] for letter in text]
    deepest = max([place + 1 + row for place, row in enumerate(called)])
    if max(deepest, len(called) + row_in(program[2])) > MOST_ROW:
        raise TooMany(MOST_ROW)
