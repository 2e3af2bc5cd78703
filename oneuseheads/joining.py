"""Programs put together: one behind another, turned about, beside one another, and with words for letters."""

from oneuseheads.errors import BadWords, TooMany, Unread
from oneuseheads.kinds import TEXT
from oneuseheads.plain import ascends
from oneuseheads.programs import MOST_STEPS, is_program, letters_of, may_write, need_pair, need_program
from oneuseheads.terms import INSIDE, MOST_NODES, is_letter, is_text, is_text_of

MOST_WORDS = 26
MOST_LENGTH = 20
TURNING = ("to", ("text",), ("text",))
NOTHING = ("fun", "y", ("text",), ("name", "y"))


def _needed(program):
    """The program that comes, unless it is none: TooMany then, with one number for all that can be too great."""
    if not is_program(program):
        raise TooMany(MOST_NODES)
    return program


class Exchange:
    """What texts are exchanged for: kind is the kind for text, end what stands for the end, steps what for puts."""

    def __init__(self, kind, end, steps):
        self._kind = kind
        self._end = end
        self._steps = steps

    def kind(self, kind):
        """The kind with texts exchanged."""
        if kind == TEXT:
            return self._kind
        return ("to", self.kind(kind[1]), self.kind(kind[2]))

    def term(self, term):
        """The term with texts exchanged."""
        if term[0] == "end":
            return self._end
        if term[0] == "put":
            return ("call", self._steps[term[1]], self.term(term[2]))
        if term[0] == "fun":
            return ("fun", term[1], self.kind(term[2]), self.term(term[3]))
        if term[0] == "call":
            return ("call", self.term(term[1]), self.term(term[2]))
        return term

    def program(self, program):
        """The program with texts exchanged in its kind and all its terms; it need not be one any more."""
        word, kind, init, steps, last = program
        told = tuple([(letter, self.term(step)) for letter, step in steps])
        return (word, self.kind(kind), self.term(init), told, self.term(last))


def behind(first, second):
    """The program that writes what second writes on what first writes."""
    need_program(first)
    need_program(second)
    _need_all_read(first, second)
    _, kind, init, steps, last = second
    exchange = Exchange(kind, init, {letter: step for letter, step in steps})
    _, come, begun, led, inner = exchange.program(first)
    told = ("fun", "z", come, ("call", last, ("call", inner, ("name", "z"))))
    return _needed(("program", come, begun, led, told))


def _need_all_read(first, second):
    for letter in may_write(first):
        if letter not in letters_of(second[3]):
            raise Unread(letter)


def turned_in(program):
    """The program that writes what program writes on the text turned round."""
    need_program(program)
    _, kind, init, steps, last = program
    come = ("to", kind, kind)
    told = tuple([(letter, _step_turned(come, step)) for letter, step in steps])
    ended = ("fun", "f", come, ("call", last, ("call", ("name", "f"), init)))
    return _needed(("program", come, ("fun", "x", kind, ("name", "x")), told, ended))


def _step_turned(kind, step):
    inner = ("call", ("name", "f"), ("call", step, ("name", "x")))
    return ("fun", "f", kind, ("fun", "x", kind[1], inner))


def turned_out(program):
    """The program that writes, turned round, what program writes."""
    need_program(program)
    inner = {letter: ("call", ("name", "g"), ("put", letter, ("name", "y"))) for letter in may_write(program)}
    _, kind, init, steps, last = _on_texts(inner).program(program)
    told = ("fun", "z", kind, ("call", ("call", last, ("name", "z")), ("end",)))
    return _needed(("program", kind, init, steps, told))


def _on_texts(inner):
    """The exchange of texts for functions of texts: for each letter inner tells what g, handed y, becomes."""
    steps = {letter: ("fun", "g", TURNING, ("fun", "y", TEXT, inner[letter])) for letter in inner}
    return Exchange(TURNING, NOTHING, steps)


def both(one, other):
    """The program that writes what one writes, and behind it what other writes, on the same text."""
    need_pair(one, other)
    inner = {letter: ("put", letter, ("call", ("name", "g"), ("name", "y"))) for letter in may_write(one)}
    ahead = _on_texts(inner).program(one)
    wanted = ("to", ahead[1], ("to", other[1], TEXT))
    kind = ("to", wanted, TEXT)
    init = ("fun", "k", wanted, ("call", ("call", ("name", "k"), ahead[2]), other[2]))
    steps = []
    for (letter, step), (_, beside) in zip(ahead[3], other[3]):
        inside = ("call", ("call", ("name", "k"), ("call", step, ("name", "a"))), ("call", beside, ("name", "b")))
        body = ("call", ("name", "p"), _fun_of_both(ahead, other, inside))
        steps.append((letter, ("fun", "p", kind, ("fun", "k", wanted, body))))
    ended = ("call", ("call", ahead[4], ("name", "a")), ("call", other[4], ("name", "b")))
    last = ("fun", "p", kind, ("call", ("name", "p"), _fun_of_both(ahead, other, ended)))
    return _needed(("program", kind, init, tuple(steps), last))


def _fun_of_both(ahead, other, body):
    """The function that is handed what both programs have led on, a and b, and is then this."""
    return ("fun", "a", ahead[1], ("fun", "b", other[1], body))


def _need_words(words, most, fits):
    """Raises BadWords unless words are at most most pairs of a letter and a text that fits."""
    if not isinstance(words, tuple) or not 1 <= len(words) <= most:
        raise BadWords("these are no words for 1 letter or more")
    for pair in words:
        if not isinstance(pair, tuple) or len(pair) != 2 or not is_letter(pair[0]):
            raise BadWords("these are no pairs of letters and texts")
        if not fits(pair[1]) or len(pair[1]) > MOST_LENGTH:
            raise BadWords("these are no texts that can stand for letters")
    if not ascends([letter for letter, _ in words]):
        raise BadWords("the letters of these words do not ascend")


def relettered(program, words):
    """The program that writes, for each letter that has one of words, its text."""
    need_program(program)
    _need_words(words, MOST_WORDS, is_text)
    told = {letter: text for letter, text in words}
    word, kind, init, steps, last = program
    come = tuple([(letter, _with_words(step, told)) for letter, step in steps])
    return _needed((word, kind, _with_words(init, told), come, _with_words(last, told)))


def _with_words(term, words):
    """The term with puts for the letters of texts in the place of each put of a letter that has a word."""
    if term[0] == "put":
        come = _with_words(term[2], words)
        for letter in reversed(words.get(term[1], term[1])):
            come = ("put", letter, come)
        return come
    come = list(term)
    for index in INSIDE[term[0]]:
        come[index] = _with_words(term[index], words)
    return tuple(come)


def read_as(program, words):
    """The program that reads the letters of words, each as program reads its text."""
    need_program(program)
    _need_words(words, MOST_STEPS, lambda text: is_text_of(letters_of(program[3]), text))
    told = {letter: step for letter, step in program[3]}
    steps = []
    for letter, text in words:
        come = ("name", "z")
        for read in reversed(text):
            come = ("call", told[read], come)
        steps.append((letter, ("fun", "z", program[1], come)))
    return _needed(("program", program[1], program[2], tuple(steps), program[4]))
