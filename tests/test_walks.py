"""Points 26 and 27: walks."""

import unittest

import reference
from oneuseheads.errors import BadNumber, BadProgram, BadText
from oneuseheads.heads import head_of, led
from oneuseheads.programs import is_program, letters, term_of
from oneuseheads.reducing import normal
from oneuseheads.tables import called, is_table, own_table, table, through
from oneuseheads.terms import is_kind, is_term, kind_of
from oneuseheads.walks import Token, crossed, run, stretch, walk
from samples import DOUBLED, DROPPING, END, FORGETTING, IDENTITY, Numbers, PROGRAMS, T, THERE_AND_BACK, TT, TURNED
from samples import made_program, made_text, n, odd_values, refused, fun, call, put, texts_to, to
from test_programs import BAD_PROGRAMS, great_program, right_program

BAD_TEXTS = [value for value in odd_values() if value not in ("", "a")]
BAD_TEXTS += ["abc", "A", "a b", ["a"], ("a",), "ab\n", {"a": 1}, "c", "b a"]


def programs(many=60, most_ends=6):
    numbers = Numbers(61)
    found = list(PROGRAMS)
    while len(found) < many:
        value = made_program(numbers, most_ends)
        if right_program(value):
            found.append(value)
    return found


def texts(value, most=6, many=6):
    numbers = Numbers(67)
    return ["", letters(value)[0], *[made_text(numbers, letters(value), most) for _ in range(many)]]


def by_tables(value, text):
    """The walk by the tables that the normal forms tell."""
    _, kind, init, steps, last = value
    double = to(kind, kind)
    links = [(letter, reference.table_by_normal_form(step, double)) for letter, step in steps]
    return reference.walk(kind, reference.table_by_normal_form(init, kind), links,
                          reference.table_by_normal_form(last, to(kind, T)), text)


def written_by_normal_form(value, text):
    """What is written, by the words of point 25, however great the term is on the way."""
    come = value[2]
    for letter in text[::-1]:
        come = reference.normal(call(dict(value[3])[letter], come))
    come = reference.normal(call(value[4], come))
    word = ""
    while come != END:
        word += come[1]
        come = come[2]
    return word


class Run(unittest.TestCase):
    def test_examples(self):
        self.assertEqual(run(TURNED, "aabab"), "babaa")
        self.assertEqual(run(program=DOUBLED, text="aba"), "aaaa")
        self.assertEqual(run(FORGETTING, "bbab"), "zbba")
        self.assertEqual(run(DROPPING, "qqq"), "k")
        self.assertEqual(run(THERE_AND_BACK, "ab"), "sambat")
        self.assertEqual([run(value, "") for value in PROGRAMS], ["", "", "zc", "k", "smt"])

    def test_normal_form(self):
        for value in programs():
            for text in texts(value):
                self.assertEqual(run(value, text), written_by_normal_form(value, text))
                if is_term(make_term(value, text)) and len(run(value, text)) < 60:
                    self.assertEqual(normal(term_of(value, text)), put(run(value, text), END))

    def test_long_texts(self):
        text = "ab" * 2000 + "b"
        self.assertEqual(run(TURNED, text), text[::-1])
        self.assertEqual(run(DOUBLED, text), "aa" * 2000)
        self.assertEqual(run(DOUBLED, "a" * 100000), "a" * 200000)
        self.assertEqual(run(FORGETTING, "b" * 1500 + "ab"), "z" + "b" * 1500 + "a")
        self.assertEqual(run(DROPPING, "q" * 1500), "k")

    def test_wrong(self):
        for function in (run, walk, stretch, Token):
            refused(self, function, {"program": TURNED, "text": "ab"},
                    [("program", BadProgram, [*BAD_PROGRAMS, great_program(31)]), ("text", BadText, BAD_TEXTS)])


def make_term(value, text):
    come = value[2]
    for letter in text[::-1]:
        come = call(dict(value[3])[letter], come)
    return call(value[4], come)


class Walk(unittest.TestCase):
    def test_examples(self):
        self.assertEqual(walk(TURNED, ""), ((), ((0, 1), (0, 0))))
        self.assertEqual(walk(TURNED, "ab"), ((("b", 2), ("a", 1)), ((0, 1), (1, 1), (2, 1), (2, 0), (1, 0), (0, 0))))
        self.assertEqual(walk(program=DOUBLED, text="ab"), ((("a", 1), ("a", 1)), ((0, 0), (1, 0), (2, 0))))
        self.assertEqual(walk(FORGETTING, "ab"), ((("z", 0), ("a", 1)), ((0, 0),)))
        self.assertEqual(walk(DROPPING, "q"), ((("k", 0),), ()))
        self.assertEqual(walk(THERE_AND_BACK, "a"), ((("s", 0), ("a", 1), ("m", 2), ("a", 1), ("t", 0)),
                                                     ((0, 1), (1, 1), (1, 0), (0, 0))))

    def test_as_told_by_the_rules(self):
        for value in programs():
            for text in texts(value):
                self.assertEqual((("ends",), *walk(value, text)), by_tables(value, text))

    def test_letters_are_those_of_run(self):
        for value in programs():
            for text in texts(value, 20):
                written, _ = walk(value, text)
                self.assertEqual("".join(letter for letter, _ in written), run(value, text))
                self.assertTrue(all(0 <= place <= len(text) + 1 for _, place in written))

    def test_crossings(self):
        great = 0
        for value in programs(120, 9):
            for text in texts(value, 12):
                _, crossings = walk(value, text)
                self.assertEqual(len(set(crossings)), len(crossings))
                self.assertLessEqual(len(crossings), reference.size(value[1]) * (len(text) + 1))
                for boundary in range(len(text) + 1):
                    ends = [end for at, end in crossings if at == boundary]
                    great = max(great, len(ends))
                    self.assertEqual(crossed(value, text, boundary), tuple(ends))
                    rows = reference.ends_of(value[1])
                    # Forward at what is asked of K, back at what K gives, by turns.
                    self.assertEqual([rows[end][0] for end in ends], [at % 2 == 0 for at in range(len(ends))])
        self.assertGreater(great, 3)

    def test_long_walks(self):
        text = "abb" * 1000
        written, crossings = walk(TURNED, text)
        self.assertEqual(written, tuple((text[place - 1], place) for place in range(3000, 0, -1)))
        self.assertEqual(crossings, tuple((at, 1) for at in range(3001)) + tuple((at, 0) for at in range(3000, -1, -1)))

    def test_crossed(self):
        self.assertEqual([crossed(TURNED, "ab", at) for at in range(3)], [(1, 0)] * 3)
        self.assertEqual(crossed(program=DROPPING, text="q", boundary=0), ())
        self.assertEqual([crossed(FORGETTING, "bab", at) for at in range(4)], [(0,), (0,), (), ()])
        bad = [3, -1, True, False, None, "1", 1.0, (1,), [1], 10 ** 29, "", {}]
        refused(self, crossed, {"program": TURNED, "text": "ab", "boundary": 2},
                [("program", BadProgram, BAD_PROGRAMS), ("text", BadText, BAD_TEXTS), ("boundary", BadNumber, bad)])
        refused(self, crossed, {"program": TURNED, "text": "", "boundary": 0}, [("boundary", BadNumber, [1, -1, True, False])])


class Stretch(unittest.TestCase):
    def test_examples(self):
        self.assertEqual(stretch(TURNED, ""), own_table(TT))
        self.assertEqual(stretch(TURNED, "aab"), ((0, "baa", 2), (3, "", 1)))
        self.assertEqual(stretch(program=DOUBLED, text="aba"), ((1, "aaaa", 0),))
        self.assertEqual(stretch(FORGETTING, "bab"), ((1, "ba", None),))

    def test_through_letter_by_letter(self):
        for value in programs():
            kind = value[1]
            for text in texts(value):
                wanted = own_table(kind)
                for letter in reversed(text):
                    wanted = through(kind, table(dict(value[3])[letter]), wanted)
                self.assertEqual(stretch(value, text), wanted)
                self.assertIs(is_table(to(kind, kind), wanted), True)

    def test_cut_as_one_likes(self):
        for value in programs(30):
            _, kind, init, _, last = value
            for text in texts(value, 8):
                for at in range(len(text) + 1):
                    whole = through(kind, stretch(value, text[:at]), stretch(value, text[at:]))
                    self.assertEqual(whole, stretch(value, text))
                inner = called(to(kind, kind), stretch(value, text), table(init))
                self.assertEqual(called(to(kind, T), table(last), inner), ((0, run(value, text), None),))

    def test_long(self):
        text = "ab" * 1000 + "a"
        self.assertEqual(stretch(TURNED, text), ((0, text[::-1], 2), (3, "", 1)))


class Tokens(unittest.TestCase):
    def test_example(self):
        token = Token(TURNED, "a")
        told = [(token.place, token.end, token.done, token.is_over(), token.written(), token.crossings())]
        while token.step():
            told.append((token.place, token.end, token.done, token.is_over(), token.written(), token.crossings()))
        wanted = [(0, 2, 0, False, (), ()), (1, 3, 1, False, (), ((0, 1),)), (2, 1, 2, False, (), ((0, 1), (1, 1))),
                  (1, 0, 3, False, (), ((0, 1), (1, 1), (1, 0))),
                  (0, 0, 4, False, (("a", 1),), ((0, 1), (1, 1), (1, 0), (0, 0))),
                  (0, 0, 5, True, (("a", 1),), ((0, 1), (1, 1), (1, 0), (0, 0)))]
        self.assertEqual(told, wanted)

    def test_attributes_are_set_when_made(self):
        for value in PROGRAMS:
            token = Token(program=value, text="")
            self.assertEqual((token.place, token.end, token.done), (0, reference.size(value[1]), 0))
            for method in ("is_over", "step", "back", "written", "crossings"):
                self.assertIn(method, vars(Token))

    def test_to_the_end(self):
        for value in programs():
            for text in texts(value):
                token = Token(value, text)
                while not token.is_over():
                    self.assertIs(token.step(), True)
                self.assertEqual((token.written(), token.crossings()), walk(value, text))
                self.assertEqual(token.done, len(token.crossings()) + 1)
                held = self.state(token)
                self.assertIs(token.step(), False)
                self.assertEqual(self.state(token), held)

    def state(self, token):
        self.assertIsInstance(token.written(), tuple)
        self.assertIsInstance(token.crossings(), tuple)
        return (token.place, token.end, token.done, token.is_over(), token.written(), token.crossings())

    def test_there_and_back(self):
        for value in programs():
            for text in texts(value, 8, 3):
                token = Token(value, text)
                states = [self.state(token)]
                while token.step():
                    states.append(self.state(token))
                self.assertEqual(self.state(token), states[-1])
                for held in reversed(states[:-1]):
                    self.assertIs(token.back(), True)
                    self.assertEqual(self.state(token), held)
                self.assertIs(token.back(), False)
                self.assertEqual(self.state(token), states[0])
                for held in states[1:]:
                    self.assertIs(token.step(), True)
                    self.assertEqual(self.state(token), held)

    def test_to_and_fro(self):
        numbers = Numbers(71)
        for value in programs(20):
            text = texts(value, 10)[-1]
            token = Token(value, text)
            states = [self.state(token)]
            while token.step():
                states.append(self.state(token))
            at = len(states) - 1
            for _ in range(100):
                if numbers.below(2):
                    self.assertIs(token.step(), at < len(states) - 1)
                    at = min(at + 1, len(states) - 1)
                else:
                    self.assertIs(token.back(), at > 0)
                    at = max(at - 1, 0)
                self.assertEqual(self.state(token), states[at])

    def test_two_tokens(self):
        one, other = Token(THERE_AND_BACK, "ab"), Token(THERE_AND_BACK, "ab")
        while one.step():
            self.assertEqual(self.state(other), (0, 2, 0, False, (), ()))
        held = self.state(one)
        other.step()
        other.back()
        self.assertIs(other.back(), False)
        self.assertEqual(self.state(one), held)
        self.assertNotEqual(one, other)
        self.assertEqual(one, one)

    def test_like_nothing_else(self):
        token = Token(TURNED, "a")
        for value in odd_values():
            self.assertFalse(token == value)
        self.assertRaises(TypeError, iter, token)
        self.assertFalse(is_program(token))
        self.assertFalse(is_table(T, token))
        self.assertFalse(is_table(T, ((0, "", token),)))
        self.assertFalse(is_term(token))
        self.assertFalse(is_term(("put", "a", token)))

    def test_long_texts(self):
        text = "ab" * 1000
        token = Token(TURNED, text)
        while token.step():
            pass
        self.assertEqual((token.written(), token.crossings()), walk(TURNED, text))
        while token.back():
            pass
        self.assertEqual(self.state(token), (0, 2, 0, False, (), ()))


class AllTellTheSame(unittest.TestCase):
    def test_run_walk_token_and_head(self):
        for value in [*programs(), great_program(30), passing_program(28, "b"), passing_program(30, "")]:
            for text in texts(value, 15):
                told = run(value, text)
                end, written, crossings = led(head_of(value), text)
                self.assertEqual(end, ("ends",))
                self.assertEqual((written, crossings), walk(value, text))
                self.assertEqual("".join(letter for letter, _ in written), told)

    def test_kinds_of_many_ends(self):
        for ends, letter in [(28, "b"), (30, "")]:
            value = passing_program(ends, letter)
            self.assertTrue(is_program(value))
            self.assertEqual(run(value, "a" * 10), letter * 10 + "c")
            self.assertEqual(kind_of(value[2]), texts_to(ends - 1))


def passing_program(ends, letter):
    """A program of a kind with so many ends, that hands all on, and puts a letter at each step, if any."""
    kind = texts_to(ends - 1)
    names = ["v" + reference.name_of_end(at) for at in range(ends - 1)]
    step = put(letter, call(n("f"), *[n(name) for name in names])) if letter else n("f")
    init = n(names[17])
    for name in reversed(names):
        step, init = fun(name, T, step) if letter else step, fun(name, T, init)
    last = fun("f", kind, call(n("f"), *[put("c", END) if at == 17 else END for at in range(ends - 1)]))
    return ("program", kind, init, (("a", fun("f", kind, step)),), last)


class Whole(unittest.TestCase):
    def test_identity(self):
        self.assertEqual(run(("program", T, put("q", END), (("a", IDENTITY),), IDENTITY), "aaa"), "q")
        self.assertTrue(is_kind(T))


if __name__ == "__main__":
    unittest.main()
