"""Point 63: bare terms."""

import unittest

import reference
from oneuseheads.bare import bare_normal, bared, is_bare
from oneuseheads.errors import BadBare, BadTerm
from oneuseheads.terms import is_closed, is_term
from samples import END, IDENTITY, Numbers, T, TT, call, copied, fun, made_kind, made_term, n, nested, odd_values, put, refused
from samples import spoiled, texts_to

BARE_IDENTITY = ("fun", "x", ("name", "x"))


def bfun(names, body):
    """The bare term with a fun for each name, the first one outermost."""
    for name in reversed(names):
        body = ("fun", name, body)
    return body


def dressed(bare):
    if bare[0] == "fun":
        return ("fun", bare[1], T, dressed(bare[2]))
    return ("call", dressed(bare[1]), dressed(bare[2])) if bare[0] == "call" else bare


def undressed(term):
    """Also of terms with many nodes in a row."""
    if term[0] == "fun":
        return ("fun", term[1], undressed(term[3]))
    return ("call", undressed(term[1]), undressed(term[2])) if term[0] == "call" else term


def right_bare(value):
    """Whether value is a bare term, by the words of the document."""
    def has_form(part, deep):
        if type(part) is not tuple or not part or type(part[0]) is not str or deep > 60:
            return False
        if part[0] == "name":
            return len(part) == 2 and reference.is_name(part[1])
        if part[0] == "fun":
            return len(part) == 3 and reference.is_name(part[1]) and has_form(part[2], deep + 1)
        return part[0] == "call" and len(part) == 3 and has_form(part[1], deep + 1) and has_form(part[2], deep + 1)

    return has_form(value, 1) and reference.nodes(dressed(value)) <= 400 and reference.uses_once(dressed(value))


def named_in_order(bare):
    """The names that funs bind exchanged for those of the row, by how the funs begin."""
    row = iter(name for name in reference.row_of_names())

    def go(part, names):
        if part[0] == "name":
            return ("name", names[part[1]])
        if part[0] == "fun":
            name = next(row)
            return ("fun", name, go(part[2], {**names, part[1]: name}))
        one = go(part[1], names)
        return ("call", one, go(part[2], names))

    return go(bare, {})


def made_bare(numbers, names, fuel):
    """A bare term that uses some of names, each once at most."""
    if not names or (fuel > 0 and numbers.below(5) < 2):
        name = numbers.one_of(["x", "y", "z", "a", "b", "to" + "a"])
        return ("fun", name, made_bare(numbers, [other for other in names if other != name] + [name], fuel - 1))
    if fuel <= 0 or numbers.below(4) == 0:
        return ("name", numbers.one_of(names))
    one, other = [], []
    for name in names:
        numbers.one_of([one, other]).append(name)
    return ("call", made_bare(numbers, one, fuel - 1), made_bare(numbers, other, fuel - 1))


def bare_of_nodes(nodes):
    """A closed bare term with just so many nodes, with few in a row."""
    if nodes <= 40:
        return bfun(["x"] * (nodes - 1), ("name", "x"))
    left = (nodes - 1) // 2
    return ("call", bare_of_nodes(left), bare_of_nodes(nodes - 1 - left))


def many_bare_terms():
    numbers = Numbers(501)
    return [made_bare(numbers, [], 3 + numbers.below(6)) for _ in range(300)]


BAD_BARE = [*odd_values(), IDENTITY, END, put("a", END), fun("x", T, n("x")), ["fun", "x", ("name", "x")], ("fun", "x", ["name", "x"]),
            ("fun", "x"), ("fun", "x", ("name", "x"), ("name", "x")), ("fun", "to", ("name", "to")), ("fun", "X", ("name", "x")),
            ("fun", "", ("name", "x")), ("fun", 1, ("name", "x")), ("fun", "x", END), ("fun", "x", ("put", "a", ("name", "x"))),
            ("call", BARE_IDENTITY), ("call", BARE_IDENTITY, END), ("call", BARE_IDENTITY, BARE_IDENTITY, BARE_IDENTITY),
            ("fun", "x", ("call", ("name", "x"), ("name", "x"))), ("call", ("name", "x"), ("name", "x")), ("name", "abcdefghi"),
            ("fun", "x", (), ("name", "x")), ("name", "call"), bfun(["x"] * 60, ("name", "x")), bare_of_nodes(401)]


class IsBare(unittest.TestCase):
    def test_bare_terms(self):
        for value in [BARE_IDENTITY, ("name", "x"), ("call", ("name", "x"), ("name", "y")), bfun("xyz", ("name", "y")),
                      bfun(["x"] * 59, ("name", "x")), bare_of_nodes(400), ("fun", "x", ("call", ("name", "x"), bfun("x", ("name", "x")))),
                      ("call", ("name", "x"), BARE_IDENTITY), *many_bare_terms()]:
            self.assertEqual(is_bare(value), right_bare(value))
            if right_bare(value):
                self.assertIs(is_bare(value=value), True)
                self.assertIs(is_term(dressed(value)), True)

    def test_no_bare_terms(self):
        for value in BAD_BARE:
            self.assertIs(is_bare(value), False, value)

    def test_limits(self):
        self.assertIs(is_bare(bfun(["x"] * 59, ("name", "x"))), True)
        self.assertIs(is_bare(bfun(["x"] * 60, ("name", "x"))), False)
        self.assertIs(is_bare(bare_of_nodes(400)), True)
        self.assertIs(is_bare(bare_of_nodes(401)), False)
        # Shared parts are counted as often as they stand there.
        self.assertIs(is_bare(nested(50, lambda inner: ("call", inner, inner), BARE_IDENTITY)), False)

    def test_wrong_in_one_place(self):
        for value in [BARE_IDENTITY, bfun("xy", ("call", ("name", "x"), ("name", "y"))), ("call", BARE_IDENTITY, BARE_IDENTITY)]:
            for other in spoiled(value):
                self.assertIs(is_bare(other), right_bare(other), other)


class Bared(unittest.TestCase):
    def test_examples(self):
        self.assertEqual(bared(IDENTITY), BARE_IDENTITY)
        self.assertEqual(bared(term=call(fun("f", TT, n("f")), IDENTITY)), ("call", ("fun", "f", ("name", "f")), BARE_IDENTITY))
        self.assertEqual(bared(call(n("x"), n("y"))), call(n("x"), n("y")))

    def test_as_told_by_the_rules(self):
        numbers = Numbers(503)
        known = 0
        for _ in range(300):
            kind = made_kind(numbers, 1 + numbers.below(5))
            term = made_term(numbers, kind, [("p", T), ("q", TT)], 5)
            held = copied(term, {})
            if not is_term(term):
                continue
            words = [reference.part(term, path)[0] for path in reference.all_paths(term)]
            if "put" in words or "end" in words:
                self.assertRaises(BadTerm, bared, term)
            else:
                known += 1
                self.assertEqual(bared(term), undressed(term))
                self.assertIs(is_bare(bared(term)), True)
            self.assertEqual(term, held)
        self.assertGreater(known, 20)

    def test_wrong(self):
        bad = [*odd_values(), BARE_IDENTITY, ("fun", "x", T, call(n("x"), n("x"))), fun("x", texts_to(60), n("x")),
               put("a", n("x")), END, IDENTITY[:3], fun("x", T, put("a", n("x"))), call(fun("x", T, n("y")), END)]
        refused(self, bared, {"term": IDENTITY}, [("term", BadTerm, bad)])


class BareNormal(unittest.TestCase):
    def test_examples(self):
        self.assertEqual(bare_normal(BARE_IDENTITY), bfun("a", ("name", "a")))
        self.assertEqual(bare_normal(bare=("call", BARE_IDENTITY, bfun("xy", ("name", "x")))), bfun("ab", ("name", "a")))
        # Names that are used more than once, and such that must be called otherwise on the way.
        self.assertEqual(bare_normal(bfun("xx", ("name", "x"))), bfun("ab", ("name", "b")))
        term = bfun("b", ("call", bfun("ab", ("call", ("name", "a"), ("name", "b"))), ("name", "b")))
        self.assertEqual(bare_normal(term), bfun("ab", ("call", ("name", "a"), ("name", "b"))))
        # In the order in which the funs begin: those of e ahead of those of f.
        term = bfun("zy", ("call", ("call", ("name", "z"), bfun("q", ("name", "q"))), bfun("p", ("call", ("name", "y"), ("name", "p")))))
        self.assertEqual(bare_normal(term), bfun("ab", ("call", ("call", ("name", "a"), bfun("c", ("name", "c"))),
                                                        bfun("d", ("call", ("name", "b"), ("name", "d"))))))
        # A term that has no kind for any names has a normal form, too.
        twice = bfun("x", ("call", ("name", "x"), BARE_IDENTITY))
        self.assertEqual(bare_normal(("call", twice, bfun("y", ("name", "y")))), bfun("a", ("name", "a")))

    def test_as_told_by_the_rules(self):
        numbers = Numbers(507)
        for bare in many_bare_terms():
            if not right_bare(bare):
                continue
            held = copied(bare, {})
            told = bare_normal(bare)
            self.assertEqual(bare, held)
            # Calls done one by one, in an order by chance.
            come = dressed(bare)
            while reference.doable(come):
                come = reference.done(come, numbers.one_of(reference.doable(come)))
            self.assertEqual(told, named_in_order(undressed(come)))
            self.assertEqual(bare_normal(told), told)
            self.assertEqual(reference.doable(dressed(told)), [])

    def test_of_closed_terms_with_kinds(self):
        numbers = Numbers(509)
        for _ in range(200):
            term = made_term(numbers, made_kind(numbers, 2 + numbers.below(5)), [], 5)
            if is_closed(term) and "end" not in str(term) and "put" not in str(term):
                self.assertEqual(bare_normal(bared(term)), named_in_order(undressed(reference.normal(term))))

    def test_many_names(self):
        names = [reference.name_of_end(at) for at in range(58)]
        told = bare_normal(bfun(["x"] * 57 + ["y"], ("call", ("name", "x"), ("name", "y"))))
        self.assertEqual(told, bfun(names, ("call", ("name", names[56]), ("name", names[57]))))
        # Many funs beside one another.
        wide = bfun("f", ("name", "f"))
        term = ("name", "f")
        for _ in range(57):
            term = ("call", term, wide)
        told = bare_normal(bfun("f", term))
        wanted = ("name", "a")
        for at in range(57):
            wanted = ("call", wanted, bfun([reference.name_of_end(at + 1)], ("name", reference.name_of_end(at + 1))))
        self.assertEqual(told, bfun("a", wanted))

    def test_more_nodes_in_a_row(self):
        # The rows of both come one behind another, and stay so.
        ahead = bfun(["x"] + ["u"] * 56, ("name", "x"))
        behind = bfun(["y"] * 57, ("name", "y"))
        told = bare_normal(("call", ahead, behind))
        names = [reference.name_of_end(at) for at in range(113)]
        self.assertEqual(told, bfun(names, ("name", names[112])))
        self.assertIs(is_bare(told), False)
        # In between there are more in a row, in the end there are few.
        chain = BARE_IDENTITY
        for _ in range(4):
            chain = ("call", bfun(["x"] + ["u"] * 50, ("name", "x")), chain)
        told = bare_normal(("call", bfun("xy", ("name", "y")), chain))
        self.assertEqual(told, bfun("a", ("name", "a")))
        deep = bare_normal(chain)
        count = 0
        while deep[0] == "fun":
            deep, count = deep[2], count + 1
        self.assertEqual((count, deep), (201, ("name", reference.name_of_end(200))))

    def test_longest_rows(self):
        # 6 rows of 57 funs, 6 calls: in the end there are more than 300 nodes in a row.
        come = bfun(["x"] * 50, ("name", "x"))
        for _ in range(6):
            come = ("call", bfun(["x"] + ["u"] * 49, ("name", "x")), come)
        told = bare_normal(come)
        count = 0
        while told[0] == "fun":
            told, count = told[2], count + 1
        self.assertEqual(count, 49 * 6 + 50)

    def test_wrong(self):
        bad = [*BAD_BARE, ("name", "x"), ("call", ("name", "x"), ("name", "y")), bfun("x", ("name", "y")),
               ("call", BARE_IDENTITY, ("name", "x"))]
        refused(self, bare_normal, {"bare": BARE_IDENTITY}, [("bare", BadBare, bad)])


if __name__ == "__main__":
    unittest.main()
