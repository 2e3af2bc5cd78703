"""Heads: what walks over texts by links alone, be they those of a program or not."""

from oneuseheads.errors import BadHead, NoProgram
from oneuseheads.kinds import TEXT
from oneuseheads.programs import is_made_of, need_program, need_read
from oneuseheads.tables import is_loose, is_right_table, read_back
from oneuseheads.walks import walked, with_tables


def is_head(value):
    """Whether value is a head."""
    return is_made_of("head", is_loose, value)


def _need_head(head):
    if not is_head(head):
        raise BadHead("this is no head")


def head_of(program):
    """The head with the tables of the terms of program."""
    need_program(program)
    return with_tables(program)


def led(head, text):
    """How the walk of head over text ends, the letters that are written, and the crossings."""
    _need_head(head)
    need_read(head[3], text)
    return walked(head, text)


def program_of(head):
    """The program whose terms are what the tables of head read back."""
    _need_head(head)
    if not is_made_of("head", is_right_table, head):
        raise NoProgram("a loose table does not read back")
    _, kind, links, steps, last = head
    double = ("to", kind, kind)
    init = read_back(kind, links)
    terms = tuple([(letter, read_back(double, step)) for letter, step in steps])
    return ("program", kind, init, terms, read_back(("to", kind, TEXT), last))
