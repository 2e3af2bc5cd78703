"""The first or the last letter of what a program writes, the machine that tells it, and what turns it round."""

from oneuseheads.errors import BadWhich
from oneuseheads.least import least_told
from oneuseheads.plain import is_whole
from oneuseheads.programs import letters_of, need_program, need_read
from oneuseheads.stretches import MOST_SHAPES, Marker, Stretches
from oneuseheads.terms import is_text_of
from oneuseheads.walks import run, walked, with_tables

LEAST_ROUND = 2


def sign(program, text, which):
    """The first or the last letter of what program writes on text, "" if it writes nothing."""
    need_program(program)
    need_read(program[3], text)
    _need_which(which)
    written = run(program, text)
    return written[:1] if which == "first" else written[-1:]


def _need_which(which):
    if not isinstance(which, str) or which not in ("first", "last"):
        raise BadWhich("this is neither first nor last")


def sign_machine(program, which):
    """The least machine that tells the sign: the signs of its states, and the tuples of states to which letters lead.
    """
    need_program(program)
    _need_which(which)
    signer = Signer(program, which)
    return signer.signs, signer.moves


def turning(program, which):
    """A turning with the least stretch, None if there is none."""
    need_program(program)
    _need_which(which)
    signer = Signer(program, which)
    for stretch, leads in zip(signer.stretches.texts, signer.leads):
        state = _state_led_round(leads)
        if state is not None:
            behind = signer.text_that_parts(state, leads[state])
            told, _ = signer.signs_again(state, leads, signer.leads_of(behind))
            return signer.text_to(state), stretch, behind, _least_round(told, 0)
    return None


def _state_led_round(leads):
    """A state that comes again, but not at once, if one goes on by leads; None if there is none."""
    for first in range(len(leads)):
        met = {}
        here = first
        while here not in met:
            met[here] = True
            here = leads[here]
        if leads[here] != here:
            return here
    return None


def _least_round(told, first):
    """The least round with which what is told comes again from the beginning on; None if it does not.

    What stands from first on comes again and again behind told.
    """
    turn = len(told) - first
    for more in range(1, turn + 1):
        again = [_told_at(told, first, at + more) for at in range(len(told))]
        if again == told:
            return more
    return None


def _told_at(told, first, at):
    return told[at] if at < len(told) else told[first + (at - first) % (len(told) - first)]


def is_turning(program, which, value):
    """Whether value is a turning."""
    need_program(program)
    _need_which(which)
    signer = Signer(program, which)
    if not isinstance(value, tuple) or len(value) != 4:
        return False
    ahead, stretch, behind, more = value
    letters = letters_of(program[3])
    if not all([is_text_of(letters, text) for text in (ahead, stretch, behind)]):
        return False
    if not is_whole(more) or more < LEAST_ROUND:
        return False
    state = signer.leads_of(ahead)[0]
    told, first = signer.signs_again(state, signer.leads_of(stretch), signer.leads_of(behind))
    return _least_round(told, first) == more


class Signer:
    """The least machine that tells the signs of what a program writes, and how stretches of text lead its states on.

    leads tells for each of stretches the list of the states to which it leads from each state.
    """

    def __init__(self, program, which):
        head = with_tables(program)
        marker = Marker(head, which)
        self.stretches = Stretches(marker)
        told = [_marked(head, marker, links) for links in self.stretches.links]
        self.moves, self.signs = least_told(self.stretches.moves, told, MOST_SHAPES)
        self.leads = self._all_leads()
        self._letters = letters_of(head[3])

    def _all_leads(self):
        found = [list(range(len(self.moves)))]
        for begin, place in self.stretches.begins:
            found.append([self.moves[state][place] for state in found[begin]])
        return found

    def leads_of(self, text):
        """The list of the states to which a text leads from each state."""
        places = {letter: at for at, letter in enumerate(self._letters)}
        number = 0
        for letter in text:
            number = self.stretches.moves[number][places[letter]]
        return self.leads[number]

    def signs_again(self, state, leads, behind):
        """What is told behind a state, and behind those to which one comes by leads, until they come again.

        And the place from which on it comes again.
        """
        met = {}
        here = state
        while here not in met:
            met[here] = len(met)
            here = leads[here]
        return [self.signs[behind[other]] for other in met], met[here]

    def text_to(self, state):
        """A shortest text that leads to a state."""
        return [text for text, leads in zip(self.stretches.texts, self.leads) if leads[0] == state][0]

    def text_that_parts(self, one, other):
        """A shortest text behind which unlike signs are told of two states."""
        found = []
        for text, leads in zip(self.stretches.texts, self.leads):
            if self.signs[leads[one]] != self.signs[leads[other]]:
                found.append(text)
        return found[0]


def _marked(head, marker, links):
    """The sign of what a head writes on a stretch of text with these marked links."""
    steps = (("a", _with_marks(links)),)
    init = _with_marks(marker.marked(head[2]))
    last = _with_marks(marker.marked(head[4]))
    _, written, _ = walked(("head", head[1], init, steps, last), "a")
    return marker.mark("".join([letter for letter, _ in written]))


def _with_marks(links):
    return tuple([(end, links[end][0], links[end][1]) for end in sorted(links)])
