"""Programs that are drawn table by table, or lead words about: with more shapes, signs and growth than most terms have."""

from oneuseheads.errors import TooMany
from oneuseheads.heads import program_of
from samples import TT, fun, made_kind, n, to
from test_alltexts import words_led
from test_tables import table_by_chance


def drawn_program(numbers, most_ends=6, letters=None):
    """A program whose terms are read back from tables drawn at random."""
    while True:
        kind = made_kind(numbers, 1 + numbers.below(most_ends))
        signs = letters or numbers.one_of(["a", "ab", "abc", "bz"])
        double = to(kind, kind)
        steps = tuple((letter, table_by_chance(numbers, double)) for letter in signs)
        last = table_by_chance(numbers, to(kind, ("text",)))
        try:
            return program_of(("head", kind, table_by_chance(numbers, kind), steps, last))
        except TooMany:
            continue


def leading_program(numbers, many, letters="ab", drops=True):
    """A program that keeps words and leads them about, some of them dropped."""
    steps = []
    for letter in letters:
        places = list(range(many))
        for at in reversed(range(1, many)):
            other = numbers.below(at + 1)
            places[at], places[other] = places[other], places[at]
        rows = []
        for source in places:
            kept = source if not drops or numbers.below(8) else None
            rows.append((kept, numbers.one_of(["", "", "p", "q", "pq"])))
        steps.append((letter, numbers.one_of(["", "", "r"]), rows))
    begun = [numbers.one_of(["", "u", "v", "uv"]) for _ in range(many)]
    return words_led(many, steps, numbers.below(many), begun)


def drawn_programs(numbers, many, most_ends=6):
    """Programs of both sorts, and some that go through functions of functions."""
    found = []
    while len(found) < many:
        which = numbers.below(3)
        if which == 0:
            found.append(drawn_program(numbers, most_ends))
        elif which == 1:
            found.append(leading_program(numbers, 2 + numbers.below(3), numbers.one_of(["a", "ab", "abc"])))
        else:
            found.append(turning_program(numbers))
    return found


def turning_program(numbers):
    """A program that keeps functions, and puts them through one another."""
    kind = to(TT, TT, ("text",))
    steps = []
    for letter in numbers.one_of(["ab", "abc"]):
        order = numbers.one_of([("f", "g"), ("g", "f"), ("f", "f2"), ("h", "g")])
        words = [numbers.one_of(["", "", "p", "q"]) for _ in range(2)]
        handed = []
        for name, word in zip(order, words, strict=True):
            body = ("call", n(name), n("x")) if name in ("f", "g") else n("x")
            for sign in word[::-1]:
                body = ("put", sign, body)
            handed.append(fun("x", ("text",), body))
        body = ("call", ("call", n("v"), handed[0]), handed[1])
        steps.append((letter, fun("v", kind, fun("f", TT, fun("g", TT, body)))))
    inner = ("call", n("f"), ("put", "s", ("call", n("g"), ("end",))))
    plain = fun("x", ("text",), ("put", "m", n("x")))
    return ("program", kind, fun("f", TT, fun("g", TT, inner)), tuple(steps),
            fun("v", kind, ("call", ("call", n("v"), plain), plain)))
