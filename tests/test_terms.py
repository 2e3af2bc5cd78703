"""Points 7, 8, 9, 12 and 13: terms."""

import unittest

import reference
from oneuseheads import terms
from oneuseheads.errors import BadName, BadNames, BadPath, BadTerm
from oneuseheads.kinds import is_kind
from oneuseheads.terms import free_names, is_closed, is_letter, is_name, is_term, is_text, kind_of, part_at, paths
from oneuseheads.terms import renamed, same_but_names, with_part
from samples import END, HIGH, IDENTITY, Numbers, PROGRAMS, T, TT, TTT, call, fun, made_kind, made_term, n, nested
from samples import odd_values, put, refused, spoiled, term_of_nodes, term_of_row, texts_to, to

SOME = fun("x", TT, fun("yy", T, call(n("x"), put("ab", call(n("z"), fun("x", T, n("yy")), END)))))
NO_TERMS = [*odd_values(), term_of_row(61), term_of_nodes(401), call(n("x"), n("x")), fun("x", texts_to(60), END),
            fun("x", T, call(n("x"), n("x"))), n("end"), n("abcdefghi"), n(""), n("A"), n("a1"), ["end"],
            call(fun("x", T, END), ("end", 1)), term_of_row(250)]


def letter_like():
    return ["a", "z", "m", "A", "", "ab", "0", " ", "\n", "a\n", "\u00e4", "\u00aa", "`", "{", b"a", ["a"], ("a",), 1, None, True]


def many_terms():
    numbers = Numbers(2)
    found = [END, n("x"), SOME, IDENTITY, term_of_row(60), term_of_nodes(400), *reference.terms_of_nodes(4, ["x", "y"])]
    for _ in range(60):
        names = [("x", made_kind(numbers, 3)), ("u", T), ("v", TT)]
        found.append(made_term(numbers, made_kind(numbers, 1 + numbers.below(5)), names, 5))
    return [term for term in found if reference.is_term(term)]


class Words(unittest.TestCase):
    def test_is_letter(self):
        for value in letter_like():
            self.assertIs(is_letter(value), value in list("azm"), value)
        for value in odd_values():
            self.assertIs(is_letter(value), value in ["a", "x"], value)
        self.assertEqual([sign for sign in map(chr, range(300)) if is_letter(value=sign)], list(reference.LETTERS))

    def test_is_text(self):
        for value in ["", "a", "zebra", "to", "az" * 5000]:
            self.assertIs(is_text(value), True)
        for value in ["A", "aB", "a b", "a1", "1", " ", "a\n", "\u00e4", "b\u00aa", b"a", b"", ["a"], ("a",), "a-z", "_"]:
            self.assertIs(is_text(value), False, value)
        self.assertIs(is_text(value="b"), True)
        for value in odd_values():
            self.assertIs(is_text(value), isinstance(value, str) and value not in ["A", "\n"])

    def test_is_name(self):
        for value in ["a", "z", "abcdefgh", "tot", "texts", "too", "puts", "ends", "funs", "calls", "names"]:
            self.assertIs(is_name(value), True)
        for value in ["", "abcdefghi", "A", "a1", "a_", " a", *reference.KEPT]:
            self.assertIs(is_name(value), False)
        self.assertIs(is_name(value="x"), True)
        for value in odd_values():
            self.assertIs(is_name(value), value in ["a", "x"])


class IsTerm(unittest.TestCase):
    def test_terms(self):
        shadowed = fun("x", T, call(fun("x", T, n("x")), n("x")))
        free_and_bound = call(n("x"), fun("x", T, n("x")))
        longest = fun("abcdefgh", texts_to(59), n("abcdefgh"))
        for term in [shadowed, free_and_bound, longest, call(END, END), put("a", fun("x", T, END)), *many_terms()]:
            self.assertIs(is_term(term), True)
        self.assertIs(is_term(value=END), True)

    def test_no_terms(self):
        for value in NO_TERMS:
            self.assertIs(is_term(value), False)

    def test_limits(self):
        for make in (term_of_row, term_of_nodes):
            for many in (1, 2, 59, 60, 61, 62, 399, 400, 401, 402):
                value = make(many)
                self.assertIs(is_term(value), reference.is_term(value), (make, many))
        self.assertEqual(reference.nodes(term_of_nodes(400)), 400)
        self.assertLess(reference.row(term_of_nodes(401)), 60)
        for make in (lambda term: fun("x", T, term), lambda term: call(term, END), lambda term: call(END, term)):
            self.assertIs(is_term(nested(59, make, END)), True)
            self.assertIs(is_term(nested(60, make, END)), False)

    def test_nodes_are_counted_in_both_parts_of_a_call(self):
        for left in (1, 20, 199, 200, 398):
            self.assertIs(is_term(call(term_of_nodes(left), term_of_nodes(399 - left))), True)
            self.assertIs(is_term(call(term_of_nodes(left), term_of_nodes(400 - left))), False)
        self.assertIs(is_term(put("a", term_of_nodes(399))), True)
        self.assertIs(is_term(put("a", term_of_nodes(400))), False)
        self.assertIs(is_term(fun("x", T, term_of_nodes(399))), True)
        self.assertIs(is_term(fun("x", T, term_of_nodes(400))), False)

    def test_parts_that_are_shared(self):
        self.assertIs(is_term(nested(59, lambda term: ("call", term, term), END)), False)
        self.assertIs(is_term(nested(7, lambda term: ("call", term, term), END)), True)
        self.assertIs(is_term(nested(295, lambda term: ("call", term, term), END)), False)
        kind = nested(290, lambda part: ("to", part, part), T)
        self.assertIs(is_term(fun("x", kind, END)), False)

    def test_names_are_used_once(self):
        for inner in reference.terms_of_nodes(3, ["x", "y"]):
            for value in [call(inner, n("x")), call(n("x"), inner), fun("x", T, call(n("y"), inner)), call(inner, inner)]:
                self.assertIs(is_term(value), reference.is_term(value), value)

    def test_wrong_in_one_place(self):
        for term in [*many_terms()[:40], SOME]:
            for value in spoiled(term):
                self.assertIs(is_term(value), reference.is_term(value), value)
                self.assertIs(is_closed(value), reference.is_closed(value), value)

    def test_is_closed(self):
        for term in many_terms():
            self.assertIs(is_closed(term), reference.kind_of(term, {}) is not None)
        for value in NO_TERMS:
            self.assertIs(is_closed(value), False)
        wanted = [(END, True), (n("x"), False), (IDENTITY, True), (call(END, END), False), (call(IDENTITY, END), True),
                  (put("a", IDENTITY), False), (fun("x", T, n("y")), False), (call(IDENTITY, IDENTITY), False)]
        for term, told in wanted:
            self.assertIs(is_closed(value=term), told)


class KindOf(unittest.TestCase):
    def test_kinds(self):
        names = [("x", TT), ("y", T)]
        wanted = [(END, T), (n("x"), TT), (n("q"), None), (call(n("x"), n("y")), T), (call(n("y"), n("x")), None),
                  (put("a", n("y")), T), (put("a", n("x")), None), (put("a", n("q")), None), (fun("x", T, n("x")), TT),
                  (fun("z", TTT, n("x")), to(TTT, TT)), (fun("x", HIGH, n("x")), to(HIGH, HIGH)),
                  (fun("x", T, n("q")), None), (call(n("x"), END), T), (call(n("x"), call(END, END)), None),
                  (call(n("q"), END), None), (call(n("x"), n("q")), None),
                  (call(fun("x", T, n("x")), n("y")), T), (call(fun("y", TT, n("y")), n("x")), TT)]
        for term, kind in wanted:
            self.assertEqual(kind_of(term, names), kind, term)
            self.assertEqual(kind_of(term=term, names=tuple(names)), kind)
        self.assertEqual(names, [("x", TT), ("y", T)])

    def test_no_names(self):
        self.assertEqual(kind_of(IDENTITY), TT)
        self.assertEqual(kind_of(IDENTITY, []), TT)
        self.assertIs(kind_of(n("x")), None)

    def test_a_kind_has_sixty_ends_at_most(self):
        self.assertEqual(kind_of(fun("x", texts_to(58), END)), ("to", texts_to(58), T))
        self.assertIs(kind_of(fun("x", texts_to(59), END)), None)
        self.assertEqual(kind_of(fun("x", texts_to(29), n("x"))), to(texts_to(29), texts_to(29)))
        self.assertIs(kind_of(fun("x", texts_to(30), n("x"))), None)
        self.assertIs(kind_of(call(fun("x", texts_to(59), END), n("y")), [("y", texts_to(59))]), None)
        self.assertEqual(kind_of(call(fun("x", texts_to(58), END), n("y")), [("y", texts_to(58))]), T)

    def test_as_told_by_the_rules(self):
        for term in many_terms():
            for names in ({}, {"x": T, "u": T, "v": TT}, {"x": TT, "y": T, "u": T}):
                self.assertEqual(kind_of(term, list(names.items())), reference.kind_of(term, names))
        numbers = Numbers(3)
        for _ in range(200):
            kind = made_kind(numbers, 1 + numbers.below(6))
            self.assertEqual(kind_of(made_term(numbers, kind, [("u", TT)], 5), [("u", TT)]), kind)

    def test_wrong(self):
        bad = [value for value in odd_values() if value not in ([], (), {})]
        bad += [{}, {"x": T}, "", [["x", T]], [("x", T, T)], [("x",)], [("x", T), ("x", TT)], [("x", T), ("x", T)],
                [("x", ["text"])], [("end", T)], [("x", T), 3], [(1, T)], [("x", texts_to(60))], [("abcdefghi", T)],
                (("x", T), ["y", T]), ("x", T), [None], [["x", T]], [("x", T), ("y", ("to", T, ["text"]))]]
        refused(self, kind_of, {"term": SOME, "names": [("x", TT)]}, [("term", BadTerm, NO_TERMS), ("names", BadNames, bad)])


class Places(unittest.TestCase):
    def test_free_names(self):
        self.assertEqual(free_names(SOME), ["z"])
        self.assertEqual(free_names(call(n("b"), call(n("a"), fun("c", T, n("d"))))), ["a", "b", "d"])
        self.assertEqual(free_names(call(fun("x", T, n("x")), n("x"))), ["x"])
        self.assertEqual(free_names(term=END), [])
        for term in many_terms():
            self.assertEqual(free_names(term), sorted(name for name, _ in reference.free_places(term)))

    def test_paths(self):
        self.assertEqual(paths(END), [()])
        self.assertEqual(paths(term=fun("x", T, call(put("a", END), n("x")))), [(), (3,), (3, 1), (3, 1, 2), (3, 2)])
        for term in many_terms():
            self.assertEqual(paths(term), sorted(reference.all_paths(term)))

    def test_part_at(self):
        for term in many_terms():
            for path in paths(term):
                self.assertEqual(part_at(term, path), reference.part(term, path))
        self.assertEqual(part_at(term=SOME, path=(3, 3, 1)), n("x"))

    def test_wrong(self):
        for function in (free_names, paths):
            refused(self, function, {"term": SOME}, [("term", BadTerm, NO_TERMS)])
        bad = [value for value in odd_values() if value != ()] + [(3, 3, 1, 1), (3, 3, True), (0,), (2,), [3], (3, -1), ("3",)]
        bad += [(3, 0), (3.0,), (3, 3, 3), (3, 3, 2, 1), (3, 1), [], (3, None), ((3,),), (3,) * 290]
        refused(self, part_at, {"term": SOME, "path": (3,)}, [("term", BadTerm, NO_TERMS), ("path", BadPath, bad)])
        # True is called 1 and so must not do for it.
        refused(self, part_at, {"term": call(END, END), "path": (1,)}, [("path", BadPath, [(True,), (3,), (0,), (False,)])])

    def test_with_part(self):
        self.assertEqual(with_part(END, (), n("x")), n("x"))
        self.assertEqual(with_part(fun("x", T, END), (3,), n("x")), fun("x", T, n("x")))
        self.assertEqual(with_part(term=call(END, END), path=(2,), part=IDENTITY), call(END, IDENTITY))
        for term in many_terms():
            for path in paths(term):
                for part in [END, n("x"), call(n("x"), n("y")), fun("y", T, n("x"))]:
                    wanted = reference.exchanged(term, path, part)
                    if reference.is_term(wanted):
                        self.assertEqual(with_part(term, path, part), wanted)
                    else:
                        self.assertRaises(BadTerm, with_part, term, path, part)

    def test_with_part_limits(self):
        self.assertEqual(with_part(term_of_row(30), (2,) * 29, term_of_row(31)), term_of_row(60))
        self.assertRaises(BadTerm, with_part, term_of_row(30), (2,) * 29, term_of_row(32))
        self.assertTrue(is_term(with_part(call(END, END), (1,), term_of_nodes(398))))
        self.assertRaises(BadTerm, with_part, call(END, END), (1,), term_of_nodes(399))

    def test_with_part_wrong(self):
        right = {"term": call(n("x"), END), "path": (2,), "part": END}
        refused(self, with_part, right, [("term", BadTerm, NO_TERMS), ("path", BadPath, [(3,), [2], None, (True,), (2, 1)]),
                                         ("part", BadTerm, NO_TERMS), ("part", BadTerm, [n("x"), call(n("x"), n("y"))])])


class Renamed(unittest.TestCase):
    def test_renamed(self):
        self.assertEqual(renamed(IDENTITY, (), "y"), fun("y", T, n("y")))
        self.assertEqual(renamed(SOME, (), "b"), fun("b", TT, fun("yy", T, call(n("b"), SOME[3][3][2]))))
        both = fun("x", T, call(fun("x", TT, n("x")), n("x")))
        self.assertEqual(renamed(both, (), "y"), fun("y", T, call(fun("x", TT, n("x")), n("y"))))
        self.assertEqual(renamed(both, (3, 1), "y"), fun("x", T, call(fun("y", TT, n("y")), n("x"))))
        self.assertEqual(renamed(fun("x", T, fun("x", T, n("x"))), (), "y"), fun("y", T, fun("x", T, n("x"))))
        self.assertEqual(renamed(term=fun("x", T, END), path=(), name="abcdefgh"), fun("abcdefgh", T, END))

    def test_all_funs(self):
        for term in many_terms():
            for path in paths(term):
                if part_at(term, path)[0] == "fun":
                    self.assertEqual(renamed(term, path, "new"), reference.renamed(term, path, "new"))

    def test_wrong(self):
        term = fun("x", T, call(n("f"), fun("g", T, n("x"))))
        paths_told = [(3,), (3, 1), (3, 2, 3), [], None, (9,), (3, 2, True), "", 3]
        names = ["x", "f", "g", "end", "", "abcdefghi", "A", None, 1, ("q",), ["q"], True, "to"]
        refused(self, renamed, {"term": term, "path": (3, 2), "name": "q"},
                [("term", BadTerm, NO_TERMS), ("path", BadPath, paths_told), ("name", BadName, names)])


class SameButNames(unittest.TestCase):
    def test_pairs(self):
        two = fun("x", T, fun("y", T, n("x")))
        pairs = [(two, fun("a", T, fun("b", T, n("a"))), True), (two, fun("a", T, fun("b", T, n("b"))), False),
                 (two, fun("y", T, fun("x", T, n("y"))), True), (fun("x", T, fun("x", T, n("x"))), two, False),
                 (fun("x", T, fun("x", T, n("x"))), fun("x", T, fun("y", T, n("y"))), True), (n("x"), n("x"), True),
                 (n("x"), n("y"), False), (fun("x", T, n("y")), fun("y", T, n("y")), False),
                 (fun("x", T, n("y")), fun("x", T, n("x")), False), (fun("y", T, n("x")), fun("z", T, n("x")), True),
                 (fun("x", T, END), fun("y", TT, END), False), (put("a", END), put("b", END), False), (END, n("x"), False),
                 (put("a", END), put("a", END), True), (call(n("x"), n("y")), call(n("y"), n("x")), False),
                 (call(fun("x", T, n("x")), n("y")), call(fun("y", T, n("y")), n("y")), True), (END, END, True),
                 (call(fun("x", T, n("x")), n("x")), call(fun("y", T, n("y")), n("y")), False)]
        for one, other, same in pairs:
            self.assertIs(same_but_names(one, other), same, (one, other))
            self.assertIs(same_but_names(one=other, other=one), same, (one, other))

    def test_all_small_pairs(self):
        told = [term for many in (1, 2, 3, 4) for term in reference.terms_of_nodes(many, ["x", "y"])]
        told = told[::7] + reference.terms_of_nodes(3, ["x", "y"])
        without = [reference.without_names(term) for term in told]
        for at, one in enumerate(told):
            for beside, other in enumerate(told):
                self.assertIs(same_but_names(one, other), without[at] == without[beside], (one, other))

    def test_chains_of_exchanges(self):
        for term in many_terms():
            come = term
            for path in paths(term):
                if part_at(come, path)[0] == "fun":
                    spare = next(name for name in reference.row_of_names() if is_name(name) and name not in repr(come))
                    come = renamed(come, path, spare)
                    self.assertIs(same_but_names(term, come), True)

    def test_wrong(self):
        refused(self, same_but_names, {"one": SOME, "other": SOME}, [("one", BadTerm, NO_TERMS), ("other", BadTerm, NO_TERMS)])


class Whole(unittest.TestCase):
    def test_terms_of_programs_are_closed(self):
        for _, kind, init, steps, last in PROGRAMS:
            self.assertTrue(is_kind(kind))
            for term in [init, last, *[step for _, step in steps]]:
                self.assertTrue(is_closed(term))

    def test_defined_here(self):
        for name in ["is_text", "is_letter", "is_name", "is_term", "is_closed", "kind_of", "free_names", "paths", "part_at",
                     "with_part", "renamed", "same_but_names"]:
            self.assertEqual(getattr(terms, name).__module__, "oneuseheads.terms")


if __name__ == "__main__":
    unittest.main()
