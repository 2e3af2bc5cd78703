"""Points 33 to 35: left tables with origins, and whether programs write alike."""

import unittest
from itertools import product

import reference
from oneuseheads.alike import alike, first_unlike, left_links, origins
from oneuseheads.errors import BadProgram, BadText, OtherLetters, TooMany
from oneuseheads.heads import head_of, program_of
from oneuseheads.programs import letters
from oneuseheads.tables import table
from oneuseheads.walks import run, walk
from samples import DOUBLED, DROPPING, END, FORGETTING, IDENTITY, Numbers, T, THERE_AND_BACK, TT, TURNED, call, fun
from samples import made_program, made_term, n, put, refused, texts_to, to
from test_programs import BAD_PROGRAMS, great_program, right_program
from test_walks import BAD_TEXTS, passing_program, programs, texts

F3 = to(TT, TT, TT, T)
ONE_MORE = fun("x", T, put("a", n("x")))
ONE_MORE_AHEAD = ("program", T, END, (("a", ONE_MORE),), ONE_MORE)
ONE_MORE_BEHIND = ("program", T, put("a", END), (("a", ONE_MORE),), IDENTITY)


def all_texts(value, most):
    for length in range(most + 1):
        for signs in product(letters(value), repeat=length):
            yield "".join(signs)


def step_of_rows(rows):
    """The step that hands on three functions, each told by a row of numbers of functions that it has, and of words."""
    def inner(row):
        come = n("x")
        for piece in reversed(row):
            come = call(n("fgh"[piece]), come) if isinstance(piece, int) else put(piece, come)
        return fun("x", T, come)

    return fun("v", F3, fun("f", TT, fun("g", TT, fun("h", TT, call(n("v"), *[inner(row) for row in rows])))))


def program_of_rows(rows, begun=("", "", ""), inner=END):
    """A program that keeps three words, and writes none of them, or what inner makes of f, g and h."""
    last = fun("v", F3, call(n("v"), *[fun("x", T, put(word, n("x"))) for word in begun]))
    steps = tuple((letter, step_of_rows(told)) for letter, told in zip("abcd", rows))
    return ("program", F3, fun("f", TT, fun("g", TT, fun("h", TT, inner))), steps, last)


def made_rows(numbers):
    rows = [[], [], []]
    for piece in range(3):
        row = rows[numbers.below(3)] if numbers.below(2) else rows[piece]
        row.insert(numbers.below(len(row) + 1), piece)
    for _ in range(1 + numbers.below(2)):
        row = numbers.one_of(rows)
        row.insert(numbers.below(len(row) + 1), "p")
    return rows


def pair_of_many_standings(seed):
    numbers = Numbers(seed)
    own = [[0], [1], [2]]
    one = program_of_rows([[[1], [2], [0]], [[1], [0], [2]], made_rows(numbers), made_rows(numbers)])
    other = program_of_rows([own, numbers.one_of([own, [[1], [0], [2]]]), made_rows(numbers), made_rows(numbers)])
    return one, other


def pairs(many, most_ends=5):
    """Pairs of programs that read the same letters, many of which write the same on many texts."""
    numbers = Numbers(211)
    found = []
    while len(found) < many:
        signs = numbers.one_of(["a", "ab", "abc"])
        one = made_program(numbers, most_ends, 4, signs)
        other = made_program(numbers, most_ends, 4, signs)
        if numbers.below(2):
            # One term alone is another one.
            at = 2 + numbers.below(3)
            if at == 3:
                terms = list(one[3])
                which = numbers.below(len(terms))
                terms[which] = (terms[which][0], made_term(numbers, to(one[1], one[1]), [], 4))
                come = tuple(terms)
            else:
                come = made_term(numbers, one[1] if at == 2 else to(one[1], T), [], 4)
            other = one[:at] + (come,) + one[at + 1:]
        if right_program(one) and right_program(other):
            found.append((one, other))
    return found


class LeftLinks(unittest.TestCase):
    def test_examples(self):
        self.assertEqual(left_links(TURNED, ""), ((0, (), None), (2, (), 1)))
        self.assertEqual(left_links(TURNED, "ab"), ((0, (("b", 2), ("a", 1)), None), (2, (), 1)))
        self.assertEqual(left_links(program=DOUBLED, text="aba"), ((1, (("a", 1), ("a", 1), ("a", 3), ("a", 3)), 0),))
        self.assertEqual(left_links(FORGETTING, "bab"), ((1, (("z", 0), ("b", 1), ("a", 2)), None),))
        self.assertEqual(left_links(THERE_AND_BACK, "ab"),
                         ((0, (("b", 2), ("a", 1), ("t", 0)), None), (2, (("s", 0), ("a", 1)), 1)))
        self.assertEqual(left_links(DROPPING, "qq"), ((2, (("k", 0),), None),))

    def test_letter_by_letter(self):
        for value in programs(80, 7):
            _, steps, last = reference.links_of_program(value)
            for text in texts(value, 7):
                self.assertEqual(left_links(value, text), reference.left_links(value[1], steps, last, text))

    def test_is_the_table_of_the_front(self):
        for value in programs(40):
            _, kind, _, steps, last = value
            for text in all_texts(value, 2):
                come = n("q")
                for letter in text[::-1]:
                    come = call(dict(steps)[letter], come)
                wanted = reference.table_by_normal_form(fun("q", kind, call(last, come)), to(kind, T))
                told = tuple((end, "".join(sign for sign, _ in written), goal) for end, written, goal in left_links(value, text))
                self.assertEqual(told, wanted)

    def test_with_init_it_is_the_walk(self):
        for value in programs(60, 8):
            ends = {end: (word, goal) for end, word, goal in table(value[2])}
            for text in texts(value, 9):
                left = {end: (written, goal) for end, written, goal in left_links(value, text)}
                written, goal = left[reference.size(value[1])]
                while goal is not None:
                    word, goal = ends[goal]
                    written += tuple((letter, len(text) + 1) for letter in word)
                    if goal is not None:
                        more, goal = left[goal]
                        written += more
                self.assertEqual(written, walk(value, text)[0])

    def test_long_texts(self):
        text = "abb" * 300
        self.assertEqual(left_links(TURNED, text),
                         ((0, tuple((text[at], at + 1) for at in reversed(range(900))), None), (2, (), 1)))
        self.assertEqual(left_links(passing_program(28, "b"), "a" * 500)[-1], (28, tuple(("b", at + 1) for at in range(500)), 27))
        self.assertEqual(len(left_links(passing_program(30, ""), "a" * 400)), 30)

    def test_wrong(self):
        for function in (left_links, origins):
            refused(self, function, {"program": TURNED, "text": "ab"},
                    [("program", BadProgram, [*BAD_PROGRAMS, great_program(31)]), ("text", BadText, BAD_TEXTS)])


class Origins(unittest.TestCase):
    def test_examples(self):
        self.assertEqual(origins(TURNED, "ab"), ("", "a", "b", ""))
        self.assertEqual(origins(program=THERE_AND_BACK, text="ab"), ("st", "aa", "b", "m"))
        self.assertEqual(origins(DROPPING, ""), ("k", ""))
        self.assertEqual(origins(FORGETTING, "bab"), ("z", "b", "a", "", ""))
        self.assertEqual(origins(DOUBLED, "a" * 300), ("", *["aa"] * 300, ""))

    def test_those_of_the_walk(self):
        for value in programs(60, 7):
            for text in texts(value, 8):
                told = origins(value, text)
                written, _ = walk(value, text)
                self.assertEqual(told, tuple("".join(letter for letter, place in written if place == at)
                                             for at in range(len(text) + 2)))
                self.assertEqual(sorted("".join(told)), sorted(run(value, text)))

    def test_of_programs_that_write_alike(self):
        for one, other in pairs(60):
            if letters(one) == letters(other) and first_unlike_or_many(one, other) is None:
                for text in texts(one):
                    self.assertEqual(origins(one, text), origins(other, text))


def first_unlike_or_many(one, other):
    try:
        return first_unlike(one, other)
    except TooMany as error:
        return ("too many", error.most)


class Alike(unittest.TestCase):
    def test_examples(self):
        self.assertIs(alike(TURNED, TURNED), True)
        self.assertIsNone(first_unlike(TURNED, TURNED))
        self.assertIs(alike(one=TURNED, other=DOUBLED), False)
        self.assertEqual(first_unlike(one=TURNED, other=DOUBLED), "a")
        self.assertEqual(first_unlike(TURNED, THERE_AND_BACK), "")
        # One a more on all texts, but it is from elsewhere.
        self.assertEqual([run(ONE_MORE_AHEAD, "a" * at) for at in range(9)], [run(ONE_MORE_BEHIND, "a" * at) for at in range(9)])
        self.assertEqual(first_unlike(ONE_MORE_AHEAD, ONE_MORE_BEHIND), "")
        self.assertIs(alike(ONE_MORE_AHEAD, ONE_MORE_BEHIND), False)

    def test_terms_in_their_normal_form(self):
        for value in programs(50, 5):
            told = first_unlike_or_many(value, program_of(head_of(value)))
            self.assertIn(told, [None, ("too many", 4), ("too many", 400)])
            if told is None:
                self.assertIs(alike(value, program_of(head_of(value))), True)

    def test_all_texts_by_length(self):
        seen = {True: 0, False: 0}
        for one, other in pairs(220):
            told = first_unlike_or_many(one, other)
            if isinstance(told, tuple):
                continue
            self.assertIs(alike(one, other), told is None)
            unlike = [text for text in all_texts(one, 4) if walk(one, text)[0] != walk(other, text)[0]]
            if unlike:
                self.assertEqual(told, unlike[0])
            elif told is not None:
                self.assertGreater(len(told), 4)
                self.assertNotEqual(walk(one, told)[0], walk(other, told)[0])
            seen[told is None] += 1
        self.assertGreater(min(seen.values()), 20)

    def test_as_told_by_the_rules(self):
        kinds = {}
        for one, other in pairs(150, 7):
            told = first_unlike_or_many(one, other)
            self.assertEqual(told, reference.first_unlike(one, other))
            kinds[type(told)] = kinds.get(type(told), 0) + 1
        self.assertGreater(kinds[tuple], 5)

    def test_long_agreement(self):
        # Three words are led round in one, two in the other.
        threes = [[1], [2], [0]]
        kinds = [n("f"), n("g"), n("h")]
        one = program_of_rows([threes], ("a", "", ""), call(kinds[0], END))
        other = program_of_rows([[[1], [0], [2]]], ("a", "", ""), call(kinds[0], END))
        self.assertEqual(first_unlike(one, other), "aa")
        never = program_of_rows([threes, [[0], [1], ["q", 2]]], ("", "", ""), call(kinds[0], END))
        late = program_of_rows([threes, [[0], [1], ["q", 2]]], ("", "", ""), call(kinds[0], END))
        self.assertIsNone(first_unlike(never, late))
        later = program_of_rows([threes, [[0], [1], [2]]], ("", "", ""), call(kinds[0], END))
        wanted = [text for text in all_texts(never, 4) if run(never, text) != run(later, text)][0]
        self.assertEqual(first_unlike(never, later), wanted)
        self.assertEqual(wanted, "baa")

    def test_same_words_from_unlike_ends(self):
        # The same is written on all texts, by other links.
        one = program_of_rows([[["p", 0], [1], [2]], [[1], [0], [2]]], inner=call(n("f"), call(n("g"), END)))
        other = program_of_rows([[[0], ["p", 1], [2]], [[1], [0], [2]]], inner=call(n("g"), call(n("f"), END)))
        self.assertIsNone(first_unlike(one, other))
        turned = program_of_rows([[["p", 0], [1], [2]], [[1], [0], [2]]], inner=call(n("g"), call(n("f"), END)))
        self.assertEqual(first_unlike(one, turned), "aba")
        self.assertEqual(first_unlike(turned, one), "aba")

    def test_too_many_links(self):
        four, five = great_left(3), great_left(4)
        self.assertEqual([len(left_links(value, "")) for value in (four, five)], [4, 5])
        self.assertIsNone(first_unlike(four, four))
        for one, other in [(five, five), (five, four), (four, five), (five, unlike_at_once(five)), (unlike_at_once(five), five)]:
            self.assertMost(4, one, other)
        # The text on which they are unlike comes ahead of the one with more links.
        grown = growing()
        self.assertEqual([len(left_links(grown, "a" * many)) for many in range(3)], [2, 7, 7])
        self.assertEqual(first_unlike(grown, unlike_at_once(grown)), "")
        self.assertMost(4, grown, grown)

    def assertMost(self, most, one, other):
        for function in (alike, first_unlike):
            with self.assertRaises(TooMany) as found:
                function(one, other)
            self.assertEqual(found.exception.most, most)

    def test_many_standings(self):
        for seed, _ in FEW_STANDINGS:
            one, other = pair_of_many_standings(seed)
            self.assertIsNone(first_unlike(one, other), seed)
        for seed, _ in MANY_STANDINGS:
            one, other = pair_of_many_standings(seed)
            self.assertMost(400, one, other)
        # 400 are not too many, 401 are.
        self.assertIsNone(reference.first_unlike(*pair_of_many_standings(FEW_STANDINGS[0][0])))
        self.assertEqual(reference.first_unlike(*pair_of_many_standings(MANY_STANDINGS[0][0])), ("too many", 400))

    def test_wrong(self):
        for function in (alike, first_unlike):
            refused(self, function, {"one": TURNED, "other": DOUBLED},
                    [("one", BadProgram, [*BAD_PROGRAMS, great_program(31)]), ("other", BadProgram, [*BAD_PROGRAMS, great_program(31)]),
                     ("other", OtherLetters, [DROPPING, ONE_MORE_AHEAD])])
            # Unlike letters are told ahead of too many links.
            self.assertRaises(OtherLetters, function, great_left(5), DOUBLED)


# Pairs with the numbers of their joint standings.
FEW_STANDINGS = [(2465, 400), (1196, 397), (1321, 385)]
MANY_STANDINGS = [(2190, 401), (1272, 410), (1239, 901)]


def great_left(many):
    """A program whose left tables have one link more than many."""
    kind = texts_to(many)
    names = ["x" + "abcdefg"[at] for at in range(many)]
    body = END
    for name in names:
        body = fun(name, T, body)
    return ("program", kind, body, (("a", fun("f", kind, n("f"))),), fun("f", kind, call(n("f"), *[END] * many)))


def unlike_at_once(value):
    """The program that writes one letter more ahead of all."""
    kind = value[1]
    return value[:4] + (fun("fq", kind, put("z", call(value[4], n("fq")))),)


def growing():
    """A program whose left table has few links for the empty text alone."""
    inner = to(texts_to(5), T)
    kind = to(inner, T)
    step = fun("f", kind, fun("g", inner, call(n("f"), fun("y", texts_to(5), call(n("y"), *[END] * 5)))))
    last = fun("f", kind, put("s", call(n("f"), fun("y", texts_to(5), END))))
    return ("program", kind, fun("g", inner, END), (("a", step),), last)


if __name__ == "__main__":
    unittest.main()
