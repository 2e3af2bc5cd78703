"""Wordings and their beginnings, by going through all kinds that there are up to some number of ends."""

import reference
from samples import T

ALL = "abcdefghijklmnopqrstuvwxyz"
KEYS = ["fun", "call", "put", "end", "text", "to"]
HOLE = ("hole",)


class Refused(Exception):
    """No beginning of a wording."""


def kinds_up_to(most):
    rows = {1: [T]}
    for ends in range(2, most + 1):
        rows[ends] = [("to", one, other) for left in range(1, ends) for one in rows[left] for other in rows[ends - left]]
    return [kind for row in rows.values() for kind in row]


def kind_words(kind):
    return ["text"] if kind == T else ["(", "to", *kind_words(kind[1]), *kind_words(kind[2]), ")"]


def term_words(term):
    if term[0] == "name":
        return [term[1]]
    if term[0] == "end":
        return ["end"]
    if term[0] == "fun":
        return ["(", "fun", term[1], *kind_words(term[2]), *term_words(term[3]), ")"]
    if term[0] == "call":
        return ["(", "call", *term_words(term[1]), *term_words(term[2]), ")"]
    return ["(", "put", term[1], *term_words(term[2]), ")"]


def program_words(value):
    _, kind, init, steps, last = value
    found = ["(", "program", *kind_words(kind), *term_words(last), *term_words(init)]
    for letter, step in steps:
        found += ["(", letter, *term_words(step), ")"]
    return [*found, ")"]


def plain(words):
    """The wording of these words, with one blank between two parts."""
    told = ""
    for word in words:
        told += word if word == ")" or told == "" or told[-1] == "(" else " " + word
    return told


def blanked(numbers, words):
    """These words with any blanks that there can be."""
    def blanks(least):
        return "".join(numbers.one_of([" ", " ", "\n"]) for _ in range(max(least, numbers.one_of([0, 0, 1, 2]))))

    told = blanks(0)
    for at, word in enumerate(words):
        between = at > 0 and word not in "()" and words[at - 1] not in "()"
        told += (blanks(1) if between else blanks(0) if at else "") + word
    return told + blanks(0)


def split(text):
    """The words and brackets of a text, and whether the last word may go on."""
    words, at = [], 0
    while at < len(text):
        end = at + 1
        if text[at] in ALL:
            while end < len(text) and text[end] in ALL:
                end += 1
            words.append(text[at:end])
        elif text[at] in "()":
            words.append(text[at])
        elif text[at] not in " \n":
            raise Refused
        at = end
    return words, bool(text) and text[-1] in ALL


class Parser:
    """Reads words as far as they go; what is missing is a hole."""

    def __init__(self, words, kinds):
        self.words = words
        self.kinds = kinds
        self.at = 0

    def next(self):
        """The next word; None if there is none."""
        self.at += 1
        return self.words[self.at - 1] if self.at <= len(self.words) else None

    def over(self):
        return self.at >= len(self.words)

    def close(self):
        """Whether a closing bracket stands here; Refused if anything else does."""
        word = self.next()
        if word not in (None, ")"):
            raise Refused
        return word == ")"

    def kind(self):
        """The list of the kinds that begin with the words that are left, or the kind that is told whole."""
        begin = self.at
        open_brackets = 0
        while not self.over():
            word = self.next()
            if word == "(":
                open_brackets += 1
            elif word == ")":
                open_brackets -= 1
            if open_brackets == 0 or word not in ("(", ")", "to", "text"):
                break
        told = self.words[begin:self.at]
        found = [kind for kind in self.kinds if kind_words(kind)[:len(told)] == told]
        whole = [kind for kind in found if kind_words(kind) == told]
        if not found:
            raise Refused
        return whole or found

    def term(self):
        word = self.next()
        if word is None:
            return HOLE
        if word != "(":
            if word == ")" or word != "end" and not reference.is_name(word):
                raise Refused
            return ("end",) if word == "end" else ("name", word)
        word = self.next()
        if word is None:
            return HOLE
        if word == "call":
            one = self.term()
            other = HOLE if self.over() else self.term()
            return ("call", one, other, self.close())
        if word == "put":
            letter = self.next()
            if letter is None:
                return ("put", HOLE, False)
            if len(letter) != 1 or letter not in ALL:
                raise Refused
            return ("put", self.term(), self.close())
        if word != "fun":
            raise Refused
        name = self.next()
        if name is not None and not reference.is_name(name):
            raise Refused
        if self.over():
            return ("fun", name, self.kinds, HOLE, False)
        kinds = self.kind()
        return ("fun", name, kinds, HOLE if self.over() else self.term(), self.close())


def possible(node, names, used, kinds):
    """The set of the kinds that what is read so far may have in the end; names tells of each its kind and a number."""
    if node == HOLE:
        return set(kinds)
    if node[0] == "end":
        return {T}
    if node[0] == "name":
        kind, number = names.get(node[1], (None, None))
        if kind is None or number in used:
            return set()
        used.add(number)
        return {kind}
    if node[0] == "put":
        return {T} & possible(node[1], names, used, kinds)
    if node[0] == "fun":
        whole = len(node[2]) == 1
        found = set()
        if node[3] == HOLE:
            found = {("to", kind, body) for kind in node[2] for body in kinds}
        elif whole:
            inner = {**names, node[1]: (node[2][0], object())}
            found = {("to", node[2][0], body) for body in possible(node[3], inner, used, kinds)}
        most = max(map(reference.size, kinds))
        return {kind for kind in found if reference.size(kind) <= most}
    one = possible(node[1], names, used, kinds)
    if node[2] == HOLE:
        return {kind[2] for kind in one if kind != T}
    other = possible(node[2], names, used, kinds)
    return {kind[2] for kind in one if kind != T and kind[1] in other}


def is_whole(node):
    if node == HOLE:
        return False
    if node[0] in ("end", "name"):
        return True
    return node[-1] is True


def read(words, names, kind, kinds):
    """What words tell of a term: None if they do not begin one, otherwise whether it is whole."""
    try:
        parser = Parser(words, kinds)
        node = parser.term()
    except Refused:
        return None
    if not parser.over():
        return None
    found = possible(node, {name: (its, object()) for name, its in names}, set(), kinds)
    if not found or kind is not None and kind not in found:
        return None
    return is_whole(node)


def words_from(word, words, names):
    """All words that matter and begin as the last word does."""
    told = {*KEYS, *[name for name, _ in names], *[other for other in words if other not in "()"], *ALL, word, word + "a"}
    return sorted(other for other in told if other.startswith(word) and len(other) <= 8)


def is_beginning(text, names, kind, kinds):
    try:
        words, goes_on = split(text)
    except Refused:
        return False
    if not goes_on:
        return read(words, names, kind, kinds) is not None
    return any(read([*words[:-1], other], names, kind, kinds) is not None for other in words_from(words[-1], words, names))


def is_right(text, names, kind, kinds):
    try:
        words, _ = split(text)
    except Refused:
        return False
    return read(words, names, kind, kinds) is True


def longest(text, names, kind, kinds):
    at = len(text)
    while not is_beginning(text[:at], names, kind, kinds):
        at -= 1
    return at


def read_program(words, kinds):
    """What words tell of a program: None if they do not begin one, otherwise whether it is whole."""
    most = max(map(reference.size, kinds))
    small = [kind for kind in kinds if 2 * reference.size(kind) <= most]
    parser = Parser(words, small)
    try:
        return _program(parser, kinds)
    except Refused:
        return None


def _program(parser, kinds):
    for word in ("(", "program"):
        told = parser.next()
        if told not in (None, word):
            raise Refused
    if parser.over():
        return False
    found = parser.kind()
    parser.kinds = kinds
    if parser.over():
        return False
    kind = found[0]
    double = ("to", kind, kind)
    for wanted in (("to", kind, T), kind):
        if parser.over():
            return False
        if wanted not in possible(parser.term(), {}, set(), kinds):
            raise Refused
    letters = ""
    while not parser.over():
        word = parser.next()
        if word == ")" and letters:
            return parser.over() or None
        if word != "(" or len(letters) == 4 or letters and letters[-1] == "z":
            raise Refused
        letter = parser.next()
        if letter is None:
            return False
        if len(letter) != 1 or letter not in ALL or letters and letter <= letters[-1]:
            raise Refused
        letters += letter
        if double not in possible(parser.term(), {}, set(), kinds):
            raise Refused
        parser.close()
    return False


def is_program_beginning(text, kinds):
    try:
        words, goes_on = split(text)
    except Refused:
        return False
    if not goes_on:
        return read_program(words, kinds) is not None
    told = [*words_from(words[-1], words, ()), *[word for word in ["program"] if word.startswith(words[-1])]]
    return any(read_program([*words[:-1], other], kinds) is not None for other in told)


def longest_of_program(text, kinds):
    at = len(text)
    while not is_program_beginning(text[:at], kinds):
        at -= 1
    return at
