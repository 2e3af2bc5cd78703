"""Points 31 and 32: surroundings, what is written in them, and those that part two terms."""

import unittest

import reference
from oneuseheads.errors import BadKind, BadSurroundings, BadTerm, TooMany
from oneuseheads.parting import is_surroundings, parted, put_in, written_in
from oneuseheads.reducing import normal
from oneuseheads.tables import bare_tables, is_table, read_back, table
from oneuseheads.terms import is_closed, is_term, kind_of
from samples import END, HIGH, IDENTITY, Numbers, T, TT, TTT, call, copied, fun, made_kind, made_term, n, nested, odd_values, put
from samples import refused, term_of_nodes, texts_to, to
from test_tables import NO_KINDS, table_by_chance

FIRST = fun("x", T, fun("y", T, n("x")))
SECOND = fun("x", T, fun("y", T, n("y")))
CALLED = call(n("h"), END)


def text_of(term):
    """What is written, by doing calls one by one, however great the term is."""
    come = reference.normal(term)
    word = ""
    while come[0] == "put":
        word += come[1]
        come = come[2]
    assert come == END
    return word


def put_by_words(surroundings, term):
    places = [path for name, path in reference.free_places(surroundings) if name == "h"]
    return reference.exchanged(surroundings, places[0], term) if places else surroundings


def made_surroundings(numbers, kind):
    """Surroundings by chance."""
    while True:
        come = made_term(numbers, T, [("h", kind)], 6)
        if is_term(come):
            return come


def check_parted(test, kind, one, other):
    """Checks what parts two terms by their tables, and by what is written."""
    held = copied((kind, one, other), {})
    told = parted(kind, one, other)
    test.assertEqual((kind, one, other), held)
    if table(one) == table(other):
        test.assertIsNone(told)
        return told
    test.assertIs(is_surroundings(kind, told), True)
    texts = [text_of(put_by_words(told, term)) for term in (one, other)]
    test.assertNotEqual(*texts, (kind, one, other))
    if all(is_term(put_by_words(told, term)) for term in (one, other)):
        test.assertEqual([written_in(kind, told, one), written_in(kind, told, other)], texts)
    return told


class Surroundings(unittest.TestCase):
    def test_examples(self):
        for kind, value in [(T, n("h")), (T, END), (T, put("ab", n("h"))), (TT, CALLED), (TT, call(n("h"), put("a", END))), (TT, END),
                            (TTT, call(n("h"), END, END)), (HIGH, call(n("h"), IDENTITY, END)),
                            # Other names may be bound as h, around it and beside it.
                            (T, call(fun("h", T, n("h")), n("h"))), (T, call(fun("h", T, END), n("h"))), (TT, call(n("h"), call(fun("h", T, n("h")), END))),
                            (T, call(fun("x", T, n("x")), n("h"))), (TT, call(fun("h", TT, call(n("h"), END)), n("h"))),
                            (T, call(fun("h", T, n("h")), END)), (TT, call(fun("h", TT, END), IDENTITY))]:
            self.assertIs(is_surroundings(kind, value), True, value)
        self.assertIs(is_surroundings(kind=TT, value=CALLED), True)
        for kind, value in [(TT, n("h")), (T, CALLED), (T, call(n("h"), n("h"))), (T, n("x")), (T, put("a", n("x"))), (TT, call(n("f"), n("h"))),
                            (TT, call(n("h"), n("h"))), (T, IDENTITY), (TT, fun("x", T, call(n("h"), n("x")))), (TT, call(n("h"), IDENTITY)),
                            (TTT, CALLED), (T, call(fun("x", T, n("h")), n("h"))), (T, call(n("h"), END)), (T, list(n("h"))),
                            (T, nested(60, lambda inner: put("a", inner), n("h"))), (HIGH, call(n("h"), END, IDENTITY)), *[(T, value) for value in odd_values() if value not in ()]]:
            self.assertIs(is_surroundings(kind, value), False, value)

    def test_by_kinds(self):
        numbers = Numbers(851)
        seen = {True: 0, False: 0}
        for _ in range(500):
            kind = made_kind(numbers, 1 + numbers.below(6))
            value = made_term(numbers, numbers.one_of([T, T, TT]), [("h", kind), *numbers.one_of([[], [], [("x", T)]])], 5)
            wanted = is_term(value) and reference.kind_of(value, {"h": kind}) == T
            self.assertIs(is_surroundings(kind, value), wanted)
            seen[wanted] += 1
        self.assertGreater(min(seen.values()), 100)

    def test_put_in(self):
        self.assertEqual(put_in(TT, CALLED, IDENTITY), call(IDENTITY, END))
        self.assertEqual(put_in(kind=T, surroundings=put("a", n("h")), term=put("b", END)), put("ab", END))
        self.assertEqual(put_in(TT, put("a", END), IDENTITY), put("a", END))
        self.assertEqual(put_in(T, call(fun("h", T, n("h")), n("h")), END), call(fun("h", T, n("h")), END))
        self.assertEqual(put_in(T, call(fun("h", T, n("h")), END), put("a", END)), call(fun("h", T, n("h")), END))
        self.assertEqual(written_in(TT, call(n("h"), put("a", END)), fun("x", T, put("b", n("x")))), "ba")
        self.assertEqual(written_in(kind=TT, surroundings=END, term=IDENTITY), "")

    def test_by_the_words(self):
        numbers = Numbers(852)
        seen = 0
        for _ in range(300):
            kind = made_kind(numbers, 1 + numbers.below(6))
            surroundings, term = made_surroundings(numbers, kind), made_term(numbers, kind, [], 5)
            if not is_closed(term):
                continue
            wanted = put_by_words(surroundings, term)
            held = copied((surroundings, term), {})
            if is_term(wanted):
                self.assertEqual(put_in(kind, surroundings, term), wanted)
                self.assertEqual(written_in(kind, surroundings, term), text_of(wanted))
                self.assertEqual(kind_of(put_in(kind, surroundings, term)), T)
                seen += 1
            else:
                self.assertRaises(BadTerm, put_in, kind, surroundings, term)
            self.assertEqual((surroundings, term), held)
        self.assertGreater(seen, 200)

    def test_limits(self):
        # So many nodes, and so many in a row.
        for function in (put_in, written_in):
            inner = term_of_nodes(200)
            around = call(fun("x", T, n("h")), term_of_nodes(197))
            self.assertEqual(reference.nodes(put_by_words(around, inner)), 399)
            function(T, around, inner)
            function(T, around, term_of_nodes(201))
            self.assertRaises(BadTerm, function, T, around, term_of_nodes(202))
            deep = nested(30, lambda told: put("a", told), n("h"))
            function(T, deep, nested(29, lambda told: put("b", told), END))
            self.assertRaises(BadTerm, function, T, deep, nested(30, lambda told: put("b", told), END))
        # What is written has any number of nodes, also in a row on the way.
        double = fun("f", TT, fun("x", T, put("a" * 40, call(n("f"), put("b" * 5, n("x"))))))
        around = call(n("h"), call(double, call(double, fun("z", T, put("c" * 40, n("z"))))))
        self.assertEqual(written_in(to(TT, T), around, fun("g", TT, call(n("g"), put("d" * 30, END)))), "a" * 80 + "c" * 40 + "b" * 10 + "d" * 30)
        with self.assertRaises(TooMany):
            normal(put_in(to(TT, T), around, fun("g", TT, call(n("g"), put("d" * 30, END)))))

    def test_wrong(self):
        bad_terms = [*odd_values(), END, fun("x", TT, n("x")), n("x"), fun("x", T, n("y")), ["fun", "x", T, n("x")], fun("x", T, call(n("x"), END))]
        bad_around = [*odd_values(), n("h"), n("x"), call(n("h"), IDENTITY), list(CALLED), call(n("h"), n("h")), put("a", n("h"))]
        for function in (put_in, written_in):
            refused(self, function, {"kind": TT, "surroundings": CALLED, "term": IDENTITY},
                    [("kind", BadKind, NO_KINDS), ("surroundings", BadSurroundings, bad_around), ("term", BadTerm, bad_terms)])
        refused(self, is_surroundings, {"kind": T, "value": 3}, [("kind", BadKind, NO_KINDS)])
        refused(self, parted, {"kind": TT, "one": IDENTITY, "other": fun("x", T, END)},
                [("kind", BadKind, NO_KINDS), ("one", BadTerm, bad_terms), ("other", BadTerm, bad_terms)])


class Parted(unittest.TestCase):
    def test_example(self):
        told = parted(TTT, FIRST, SECOND)
        self.assertEqual([written_in(TTT, told, FIRST), written_in(TTT, told, SECOND)], ["", "a"])
        self.assertIsNone(parted(kind=TTT, one=FIRST, other=FIRST))
        self.assertIsNone(parted(TT, IDENTITY, fun("x", T, call(fun("y", T, n("y")), n("x")))))
        self.assertIsNone(parted(to(TT, TT), fun("f", TT, n("f")), fun("f", TT, fun("x", T, call(n("f"), n("x"))))))

    def test_words(self):
        # One begins the other, by what a goal would write, too.
        for one, other in [("", "a"), ("a", ""), ("a", "aa"), ("ab", "a"), ("ba", "b"), ("b", "c"), ("", "zz")]:
            check_parted(self, T, put(one, END), put(other, END))
            check_parted(self, TT, fun("x", T, put(one, n("x"))), fun("x", T, put(other, n("x"))))
            check_parted(self, TT, fun("x", T, put(one, n("x"))), fun("x", T, put(other, END)))
            check_parted(self, TTT, fun("x", T, fun("y", T, put(one, n("x")))), fun("x", T, fun("y", T, put(other, n("y")))))
        check_parted(self, TT, IDENTITY, fun("x", T, END))
        check_parted(self, TT, fun("x", T, END), IDENTITY)

    def test_all_tables_of_small_kinds(self):
        for kind in [T, TT, TTT, to(TT, T), to(TT, TT), HIGH, to(to(TT, T), T), to(TT, TT, T), to(to(TT, T), TT)]:
            terms = [read_back(kind, links) for links in bare_tables(kind)]
            for one in terms:
                for other in terms:
                    told = check_parted(self, kind, one, other)
                    self.assertIs(told is None, one == other)

    def test_drawn_tables(self):
        numbers = Numbers(853)
        seen = {}
        for _ in range(400):
            kind = made_kind(numbers, 1 + numbers.below(12))
            links = table_by_chance(numbers, kind)
            near = near_table(numbers, kind, links)
            one, other = read_back(kind, links), read_back(kind, near)
            told = check_parted(self, kind, one, other)
            seen[told is None] = True
            # Far ones, too.
            check_parted(self, kind, one, read_back(kind, table_by_chance(numbers, kind)))
        self.assertEqual(len(seen), 2)

    def test_drawn_terms(self):
        numbers = Numbers(854)
        for _ in range(200):
            kind = made_kind(numbers, 1 + numbers.below(9))
            one, other = made_term(numbers, kind, [], 6), made_term(numbers, kind, [], 6)
            if is_closed(one) and is_closed(other):
                check_parted(self, kind, one, other)

    def test_deep_within_arguments(self):
        for kind in [nested(11, lambda told: ("to", told, T), T), nested(5, lambda told: ("to", T, ("to", told, T)), TT),
                     nested(4, lambda told: ("to", ("to", told, T), T), TTT), texts_to(11), to(texts_to(5), texts_to(5)),
                     nested(3, lambda told: ("to", told, told), T)]:
            numbers = Numbers(855)
            for _ in range(60):
                links = table_by_chance(numbers, kind)
                one, other = read_back(kind, links), read_back(kind, near_table(numbers, kind, links))
                check_parted(self, kind, one, other)

    def test_great_kinds(self):
        numbers = Numbers(856)
        seen = set()
        for ends in (20, 30, 31, 45, 59, 60):
            for _ in range(12):
                kind = made_kind(numbers, ends)
                links = table_by_chance(numbers, kind)
                near = near_table(numbers, kind, links)
                try:
                    one, other = read_back(kind, links), read_back(kind, near)
                except TooMany:
                    continue
                check_parted(self, kind, one, other)
                seen.add(ends)
        self.assertEqual(len(seen), 6)

    def test_too_many_in_a_row(self):
        # By hand: 59 texts are handed on one by one; the first one stands in all the calls, and with it there are 60.
        wide = texts_to(59)
        names = [reference.name_of_end(at) + "x" for at in range(59)]

        def chosen(at, word=""):
            come = END if at is None else n(names[at])
            come = put(word, come)
            for name in reversed(names):
                come = fun(name, T, come)
            return come

        for one, other in [(0, 58), (58, 0), (1, 0), (0, 1), (None, 1), (1, None), (30, 31)]:
            told = check_parted(self, wide, chosen(one), chosen(other))
            self.assertLessEqual(reference.row(told), 60)
        # Only if the first one writes something the two are parted.
        for one, other in [(chosen(0), chosen(None)), (chosen(None), chosen(0))]:
            with self.assertRaises(TooMany) as found:
                parted(wide, one, other)
            self.assertEqual(found.exception.most, 60)
        # The whole is one node deeper: any unlike words are too deep, but those of one text less.
        deep = to(texts_to(58), T)
        inner = [fun("f", texts_to(58), call(n("f"), *[put("a" if place == which else "", END) for place in range(58)])) for which in (0, 1, 57)]
        plain = fun("f", texts_to(58), call(n("f"), *[END] * 58))
        for one in inner:
            if is_closed(one):
                check_parted(self, deep, one, plain)


def near_table(numbers, kind, links):
    """A table of the kind that is unlike in one link, or in what is read there; or the same one."""
    for _ in range(30):
        at = numbers.below(len(links))
        end, word, goal = links[at]
        which = numbers.below(3)
        if which == 0:
            come = links[:at] + ((end, word + numbers.one_of(["a", "b"]), goal),) + links[at + 1:]
        elif which == 1:
            come = kept(kind, {**{e: (w, g) for e, w, g in links}, end: (word, None)})
        else:
            come = other_goal(numbers, kind, links, end)
        if come is not None:
            return come
    return links


def kept(kind, told):
    """The links of those ends that are read, told by a dict."""
    rows = reference.ends_of(kind)
    found, todo = [], [len(rows) - 1]
    for end in todo:
        word, goal = told.get(end, ("", None))
        found.append((end, word, goal))
        todo += reference.parts_of(rows, goal) if goal is not None else []
    return tuple(sorted(found, key=lambda link: link[0]))


def other_goal(numbers, kind, links, end):
    """The table in which this end has another goal that was not used, if there is one."""
    rows = reference.ends_of(kind)
    goals = [goal for goal in range(len(rows)) if not rows[goal][0] and goal not in [link[2] for link in links]]
    if not goals:
        return None
    told = {e: (w, g) for e, w, g in links}
    come = kept(kind, {**told, end: (told[end][0], numbers.one_of(goals))})
    return come if is_table(kind, come) else None


if __name__ == "__main__":
    unittest.main()
