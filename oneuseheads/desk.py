"""A held text that is led by lines of words, and whose deeds can be taken back and done again."""

from oneuseheads.errors import BadJournal, BadLine, BadNumber, BadText
from oneuseheads.held import Held
from oneuseheads.terms import is_letter, is_text

MOST_DIGITS = 9
DONE = "done"
REFUSED = "refused"


class Desk:
    """A text that is held, led by lines."""

    def __init__(self, program, text=""):
        self.held = Held(program, text)
        # The lines of the deeds that can be taken back, each with the text ahead of it.
        self._deeds = []

    def journal(self):
        """The list of the lines of the deeds that were done and not taken back."""
        return [line for line, _ in self._deeds]

    def say(self, line):
        """The list of strings with which a line is answered."""
        if not _is_line(line):
            raise BadLine("this is no line")
        words = line.split(" ")
        try:
            if _is_deed(words):
                return self._do(line, words)
            if _is_question(words):
                return _told(self.held, words)
        except (BadNumber, BadText):
            return [REFUSED]
        if words == ["undo"]:
            return self._take_back()
        return ["unknown"]

    def _do(self, line, words):
        ahead = self.held.letters()
        _done(self.held, words)
        self._deeds.append((line, ahead))
        return [DONE]

    def _take_back(self):
        if not self._deeds:
            return ["nothing"]
        _, text = self._deeds.pop()
        _lead_to(self.held, text)
        return [DONE]


def _is_line(value):
    return isinstance(value, str) and "\n" not in value


def _is_number(word):
    if not word.isascii() or not word.isdigit() or len(word) > MOST_DIGITS:
        return False
    return word == "0" or word[0] != "0"


def _is_deed(words):
    """Whether these are the words of a line for a deed, be it refused or not."""
    if len(words) != 3 or not _is_number(words[1]):
        return False
    word, _, more = words
    if word == "put":
        return is_text(more) and more != ""
    return word == "take" and _is_number(more) or word == "swap" and is_letter(more)


def _done(held, words):
    """Does the deed that these words tell."""
    word, number, more = words
    if word == "put":
        held.put_in(int(number), more)
    elif word == "take":
        held.take_out(int(number), int(more))
    else:
        held.exchange(int(number), more)


def _is_question(words):
    """Whether these are the words of a line that asks for what is held."""
    if words[0] in ("text", "written", "length", "size", "unread"):
        return len(words) == 1
    if words[0] in ("origin", "spots", "cuts"):
        return len(words) == 2 and _is_number(words[1])
    return words[0] == "piece" and len(words) == 3 and _is_number(words[1]) and _is_number(words[2])


def _told(held, words):
    """The answer to the question that these words ask."""
    numbers = [int(word) for word in words[1:]]
    if words[0] == "text":
        return [held.letters()]
    if words[0] == "written":
        return [held.written()]
    if words[0] == "length":
        return [str(held.length())]
    if words[0] == "size":
        return [str(held.size())]
    if words[0] == "unread":
        return [str(place) for place in held.unread()]
    if words[0] == "origin":
        return [str(held.origin(numbers[0]))]
    if words[0] == "spots":
        return [str(spot) for spot in held.spots(numbers[0])]
    if words[0] == "cuts":
        return [f"{side} {begin} {end}" for side, begin, end in held.cuts(numbers[0])]
    return [held.piece(numbers[0], numbers[1])]


def _lead_to(held, text):
    """Leads a held text to another one by exchanging what stands between where both begin and end alike."""
    now = held.letters()
    ahead = _alike_ahead(now, text)
    behind = _alike_ahead(now[ahead:][::-1], text[ahead:][::-1])
    held.take_out(ahead, len(now) - behind - ahead)
    held.put_in(ahead, text[ahead:len(text) - behind])


def _alike_ahead(one, other):
    """How many letters both have alike ahead of the first unlike one."""
    low = 0
    high = min(len(one), len(other))
    while low < high:
        middle = (low + high + 1) // 2
        if one[low:middle] == other[low:middle]:
            low = middle
        else:
            high = middle - 1
    return low


def replayed(program, text, journal):
    """The desk that has done what a journal tells, beginning with text."""
    desk = Desk(program, text)
    if not isinstance(journal, (list, tuple)):
        raise BadJournal("this is no list of lines")
    for line in journal:
        if not _is_line(line) or not _is_deed(line.split(" ")) or desk.say(line) != [DONE]:
            raise BadJournal("these are not lines of deeds each of which is done")
    return desk
