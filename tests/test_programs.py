"""Point 25: programs."""

import unittest

import reference
from oneuseheads.errors import BadProgram, BadText, TooMany
from oneuseheads.programs import is_program, letters, term_of
from oneuseheads.reducing import normal
from oneuseheads.terms import is_closed, is_term
from samples import DOUBLED, DROPPING, END, FORGETTING, IDENTITY, Numbers, PROGRAMS, T, THERE_AND_BACK, TT, TTT, TURNED
from samples import call, fun, made_program, made_text, n, odd_values, put, refused, spoiled, term_of_nodes, texts_to, to


def program(kind=T, init=END, steps=(("a", IDENTITY),), last=IDENTITY):
    return ("program", kind, init, steps, last)


def right_program(value):
    """Whether value is a program, by the words of the document."""
    if type(value) is not tuple or len(value) != 5 or type(value[0]) is not str or value[0] != "program":
        return False
    _, kind, init, steps, last = value
    if not reference.is_kind(kind) or 2 * reference.size(kind) > 60 or type(steps) is not tuple or not 1 <= len(steps) <= 4:
        return False
    told = [(kind, init), (("to", kind, T), last)]
    for step in steps:
        if type(step) is not tuple or len(step) != 2 or type(step[0]) is not str or len(step[0]) != 1:
            return False
        if step[0] not in reference.LETTERS:
            return False
        told.append((("to", kind, kind), step[1]))
    if any(one[0] >= other[0] for one, other in zip(steps, steps[1:])):
        return False
    return all(reference.is_closed(term) and reference.kind_of(term, {}) == wanted for wanted, term in told)


def identities(letters_told):
    return tuple((letter, IDENTITY) for letter in letters_told)


BAD_PROGRAMS = [*odd_values(), ("program", T, END, (("a", IDENTITY),)), ["program", T, END, (("a", IDENTITY),), IDENTITY],
                ("head", T, END, (("a", IDENTITY),), IDENTITY), program(steps=()), program(steps=identities("abcde")),
                program(steps=identities("ba")), program(steps=identities("aa")), program(steps=identities(["ab"])),
                program(steps=identities("A")), program(steps=[("a", IDENTITY)]), program(steps=(["a", IDENTITY],)),
                program(steps=(("a", IDENTITY, END),)), program(steps=(("a",),)), program(steps=(("a", END),)),
                program(init=IDENTITY), program(init=n("x")), program(last=END), program(kind=TT), program(kind=["text"]),
                program(last=fun("x", T, n("y"))), program(steps=(("a", IDENTITY), ("b", fun("x", TT, n("x"))))),
                program(init=call(END, END)), program(last=fun("x", TT, call(n("x"), END))), program(steps=identities("abca"))]


def great_program(ends):
    kind = texts_to(ends - 1)
    body = END
    for at in range(ends - 1):
        body = fun(reference.name_of_end(at) + "q", T, body)
    return program(kind, body, (("a", fun("f", kind, n("f"))),), fun("f", kind, END))


class IsProgram(unittest.TestCase):
    def test_programs(self):
        for value in [*PROGRAMS, program(), program(steps=identities("abcz")), program(steps=identities("z")), great_program(30)]:
            self.assertIs(is_program(value), True)
            self.assertIs(is_program(value=value), True)
        numbers = Numbers(51)
        for _ in range(100):
            value = made_program(numbers)
            self.assertIs(is_program(value), right_program(value))

    def test_no_programs(self):
        for value in [*BAD_PROGRAMS, great_program(31), great_program(60)]:
            self.assertIs(is_program(value), False, value)

    def test_wrong_in_one_place(self):
        for value in [TURNED, DOUBLED, DROPPING]:
            for other in spoiled(value):
                self.assertIs(is_program(other), right_program(other), other)

    def test_letters(self):
        self.assertEqual([letters(value) for value in PROGRAMS], ["ab", "ab", "ab", "q", "ab"])
        self.assertEqual(letters(program=program(steps=identities("abcz"))), "abcz")
        refused(self, letters, {"program": TURNED}, [("program", BadProgram, [*BAD_PROGRAMS, great_program(31)])])


class TermOf(unittest.TestCase):
    def test_term_of(self):
        _, _, init, ((_, step_a), (_, step_b)), last = TURNED
        self.assertEqual(term_of(TURNED, ""), call(last, init))
        self.assertEqual(term_of(TURNED, "ab"), call(last, call(step_a, call(step_b, init))))
        self.assertEqual(term_of(program=DOUBLED, text="b"), call(IDENTITY, call(IDENTITY, END)))

    def test_turned_round(self):
        for text in ["", "a", "ab", "aab", "babba"]:
            self.assertEqual(normal(term_of(TURNED, text)), put(text[::-1], END))

    def test_too_great(self):
        numbers = Numbers(53)
        for value in [*PROGRAMS, *[made_program(numbers) for _ in range(20)]]:
            if is_program(value):
                for many in [*range(12), *range(40, 66)]:
                    self.check(value, letters(value)[many % len(letters(value)) - 1] * many)
                    self.check(value, made_text(numbers, letters(value), many))

    def check(self, value, text):
        _, _, come, steps, last = value
        for letter in text[::-1]:
            come = call(dict(steps)[letter], come)
        come = call(last, come)
        if is_term(come):
            self.assertEqual(term_of(value, text), come)
            self.assertTrue(is_closed(come))
        else:
            with self.assertRaises(TooMany) as found:
                term_of(value, text)
            self.assertEqual(found.exception.most, 400 if reference.nodes(come) > 400 else 60)

    def test_edges(self):
        # Each call adds a node to the row in which the letters behind it stand.
        self.assertEqual(term_of(program(), "a" * 57), self.chain(57))
        self.assertRaisesMost(60, program(), "a" * 58)
        self.assertRaisesMost(60, program(init=put("a" * 40, END)), "a" * 19)
        self.assertTrue(is_term(term_of(program(init=put("a" * 40, END)), "a" * 18)))
        long_step = program(steps=(("a", fun("x", T, put("b" * 54, n("x")))), ("b", IDENTITY)))
        self.assertTrue(is_term(term_of(long_step, "bba")))
        self.assertRaisesMost(60, long_step, "bbba")
        self.assertTrue(is_term(term_of(long_step, "abbbbb")))
        self.assertRaisesMost(60, program(last=fun("x", T, put("b" * 58, n("x")))), "")
        self.assertTrue(is_term(term_of(program(last=fun("x", T, put("b" * 57, n("x")))), "")))
        exact = program(init=term_of_nodes(397))
        self.assertEqual(reference.nodes(term_of(exact, "")), 400)
        self.assertRaisesMost(400, program(init=term_of_nodes(398)), "")
        self.assertRaisesMost(400, exact, "a")
        self.assertRaisesMost(400, program(), "a" * 4000)
        # Too many nodes are told ahead of too many in a row.
        self.assertRaisesMost(400, program(init=term_of_nodes(300)), "a" * 70)

    def chain(self, many):
        come = END
        for _ in range(many + 1):
            come = call(IDENTITY, come)
        return come

    def assertRaisesMost(self, most, value, text):
        self.assertTrue(is_program(value))
        with self.assertRaises(TooMany) as found:
            term_of(value, text)
        self.assertEqual(found.exception.most, most)

    def test_wrong(self):
        bad = [value for value in odd_values() if value not in ("", "a")] + ["abc", "A", "a b", ["a"], ("a",), "ab\n", {"a": 1}]
        refused(self, term_of, {"program": TURNED, "text": "ab"}, [("program", BadProgram, BAD_PROGRAMS), ("text", BadText, bad)])
        refused(self, term_of, {"program": DROPPING, "text": "q"}, [("text", BadText, ["a", "qa", "Q", None, "aq"])])
        # A wrong text is told ahead of too great a term.
        self.assertRaises(BadText, term_of, TURNED, "a" * 1000 + "c")


class Samples(unittest.TestCase):
    def test_what_they_write(self):
        wanted = [(TURNED, "aab", "baa"), (DOUBLED, "aba", "aaaa"), (FORGETTING, "bba", "zbba"), (DROPPING, "qq", "k"),
                  (THERE_AND_BACK, "ab", "sambat"), (FORGETTING, "", "zc")]
        for value, text, written in wanted:
            self.assertEqual(normal(term_of(value, text)), put(written, END))
        self.assertEqual(to(T, T, T), TTT)


if __name__ == "__main__":
    unittest.main()
