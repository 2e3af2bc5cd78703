"""Points 14, 15 and 16: reducing."""

import unittest

import reference
from oneuseheads.errors import BadPath, BadTerm, TooMany
from oneuseheads.reducing import are_orders, doable, done, drops, fewest, most, normal
from oneuseheads.terms import is_term, same_but_names
from samples import END, IDENTITY, Numbers, T, TT, call, fun, made_kind, made_term, n, nested, odd_values, put, refused
from samples import term_of_nodes, term_of_row
from test_terms import NO_TERMS

TWO = fun("x", T, fun("y", T, n("x")))


def caught(handed):
    """A call in which the names y, then z, would be caught."""
    return call(fun("x", T, fun("y", T, fun("z", T, call(n("y"), n("x"))))), handed)


def small_terms():
    found = [term for many in range(1, 7) for term in reference.terms_of_nodes(many, ["x", "y"])]
    found += [term for term in reference.terms_of_nodes(7, ["x", "y"]) if reference.doable(term)][::5]
    return [term for term in found if reference.doable(term)]


def made_terms(many, fuel):
    numbers = Numbers(5)
    found = []
    while len(found) < many:
        names = [("x", made_kind(numbers, 3)), ("y", T), ("a", TT)]
        term = made_term(numbers, made_kind(numbers, 1 + numbers.below(5)), names, fuel)
        if is_term(term):
            found.append(term)
    return found


def growing(puts, calls):
    """Calls side by side, each of which makes a row longer by so many nodes when they are done."""
    come = END
    for name in "abcdefghij"[:calls]:
        come = call(fun(name, T, put("p" * puts, n(name))), come)
    return come


def long_between():
    """A term with a normal form of one node, and in between very many nodes in a row."""
    return call(fun("q", T, END), growing(40, 9))


class Doable(unittest.TestCase):
    def test_doable(self):
        self.assertEqual(doable(END), [])
        self.assertEqual(doable(call(n("x"), END)), [])
        self.assertEqual(doable(term=call(IDENTITY, call(IDENTITY, END))), [(), (2,)])
        self.assertEqual(doable(fun("x", T, call(put("a", END), call(TWO, END)))), [(3, 2)])
        self.assertEqual(doable(call(call(TWO, call(IDENTITY, END)), call(IDENTITY, END))), [(1,), (1, 2), (2,)])

    def test_all(self):
        for term in [*small_terms()[::3], *made_terms(40, 6)]:
            self.assertEqual(doable(term), sorted(reference.doable(term)))

    def test_wrong(self):
        for function in (doable, normal, fewest, most, drops):
            refused(self, function, {"term": call(IDENTITY, END)}, [("term", BadTerm, NO_TERMS)])


class Done(unittest.TestCase):
    def test_done(self):
        self.assertEqual(done(call(IDENTITY, put("a", END)), ()), put("a", END))
        self.assertEqual(done(call(fun("x", T, END), n("x")), ()), END)
        self.assertEqual(done(term=put("b", call(fun("x", T, put("a", n("x"))), END)), path=(2,)), put("ba", END))
        self.assertEqual(done(call(fun("x", T, fun("x", T, n("x"))), n("z")), ()), fun("x", T, n("x")))
        inner = call(fun("x", T, call(fun("x", T, n("x")), n("x"))), n("w"))
        self.assertEqual(done(inner, ()), call(fun("x", T, n("x")), n("w")))

    def test_names_that_would_be_caught(self):
        self.assertEqual(done(caught(n("w")), ()), fun("y", T, fun("z", T, call(n("y"), n("w")))))
        self.assertEqual(done(caught(n("y")), ()), fun("a", T, fun("z", T, call(n("a"), n("y")))))
        self.assertEqual(done(caught(n("z")), ()), fun("y", T, fun("a", T, call(n("y"), n("z")))))
        self.assertEqual(done(caught(call(n("z"), n("y"))), ()),
                         fun("a", T, fun("b", T, call(n("a"), call(n("z"), n("y"))))))
        # a stands in the handed part, b elsewhere in the whole term: c is the first that stands nowhere.
        self.assertEqual(done(call(caught(call(n("y"), n("a"))), fun("b", T, END)), (1,)),
                         call(fun("c", T, fun("z", T, call(n("c"), call(n("y"), n("a"))))), fun("b", T, END)))
        # What is handed binds y itself: only free names are caught.
        self.assertEqual(done(caught(fun("y", T, n("y"))), ()), fun("y", T, fun("z", T, call(n("y"), fun("y", T, n("y"))))))
        # Funs that do not stand around the place keep their names, and so do all if what is handed is dropped.
        beside = call(fun("x", T, call(fun("y", T, n("y")), n("x"))), n("y"))
        self.assertEqual(done(beside, ()), call(fun("y", T, n("y")), n("y")))
        self.assertEqual(done(call(fun("x", T, fun("y", T, END)), n("y")), ()), fun("y", T, END))
        twice = call(fun("x", T, fun("y", T, fun("y", T, call(n("y"), n("x"))))), n("y"))
        self.assertEqual(done(twice, ()), fun("a", T, fun("b", T, call(n("b"), n("y")))))
        # The name that is bound stands in the term, too, ahead of the call being done.
        self.assertEqual(done(call(fun("a", T, fun("y", T, n("a"))), n("y")), ()), fun("b", T, n("y")))

    def test_spare_names(self):
        for taken, spare in [(25, "z"), (26, "aa"), (27, "ab"), (51, "az"), (52, "ba")]:
            rest = END
            names = [name for _, name in zip(range(taken), reference.row_of_names())]
            for name in names:
                rest = call(fun(name, T, END), rest) if len(name) == 1 or name == "aa" else call(rest, fun(name, T, END))
            term = call(call(fun("xxx", T, fun("yyy", T, n("xxx"))), n("yyy")), rest)
            self.assertTrue(is_term(term), taken)
            self.assertEqual(done(term, (1,)), call(fun(spare, T, n("yyy")), rest))

    def test_kept_words_are_no_spare_names(self):
        names = [name for _, name in zip(range(534), reference.row_of_names())]
        self.assertEqual(next(name for name in reference.row_of_names() if name not in names), "to")
        # 534 names stand in no term of 400 nodes: so the row is walked here by its numbers alone.
        from oneuseheads.plain import name_in_row
        self.assertEqual([name_in_row(number) for number in range(800)],
                         [name for _, name in zip(range(800), reference.row_of_names())])

    def test_all(self):
        for term in [*small_terms(), *made_terms(60, 6)]:
            for path in reference.doable(term):
                wanted = reference.done(term, path)
                if reference.row(wanted) <= 60:
                    come = done(term, path)
                    self.assertEqual(come, wanted, (term, path))
                    self.assertLess(reference.nodes(come), reference.nodes(term))
                    self.assertTrue(is_term(come))

    def test_kinds_are_kept(self):
        for term in made_terms(80, 6):
            for path in doable(term):
                for names in ({"x": T, "y": T, "a": TT}, {}):
                    if reference.kind_of(term, names) is not None:
                        self.assertEqual(reference.kind_of(done(term, path), names), reference.kind_of(term, names))

    def test_rows_of_sixty(self):
        def growing_to(row):
            return call(fun("x", T, put("a" * 30, n("x"))), term_of_row(row - 30))

        self.assertEqual(done(growing_to(60), ()), term_of_row(60))
        self.assertEqual(normal(growing_to(60)), term_of_row(60))
        for function, told in ((done, [()]), (normal, [])):
            with self.assertRaises(TooMany) as found:
                function(growing_to(61), *told)
            self.assertEqual(found.exception.most, 60)

    def test_wrong(self):
        term = call(IDENTITY, call(n("x"), END))
        bad = [(2,), (1,), (1, 3), [], [()], None, (True,), (2, 2), "", 0, *[value for value in odd_values() if value != ()]]
        refused(self, done, {"term": term, "path": ()}, [("term", BadTerm, NO_TERMS), ("path", BadPath, bad)])
        inner = call(n("x"), call(IDENTITY, END), END)
        refused(self, done, {"term": inner, "path": (1, 2)}, [("path", BadPath, [(True, 2), (), (1,), (2,), [1, 2], (1, 2, 1)])])
        # A bad path is told ahead of too long a row.
        self.assertRaises(BadPath, done, growing(40, 2), (1,))


class Normal(unittest.TestCase):
    def test_normal(self):
        self.assertEqual(normal(END), END)
        self.assertEqual(normal(term=call(IDENTITY, call(IDENTITY, n("w")))), n("w"))
        self.assertEqual(normal(call(TWO, n("a"), n("b"))), n("a"))
        self.assertEqual(normal(caught(n("y"))), fun("a", T, fun("z", T, call(n("a"), n("y")))))
        self.assertEqual(normal(call(END, call(IDENTITY, n("q")))), call(END, n("q")))

    def test_all(self):
        for term in [*small_terms(), *made_terms(60, 6)]:
            self.assertEqual(normal(term), reference.normal(term))

    def test_long_rows_between(self):
        self.assertTrue(is_term(long_between()))
        self.assertTrue(is_term(growing(40, 9)))
        self.assertEqual(normal(long_between()), END)
        wide = fun("y", T, call(fun("x", T, END), n("y")))
        self.assertEqual(normal(call(wide, growing(40, 8))), END)
        self.assertRaises(TooMany, normal, growing(40, 9))
        self.assertEqual(fewest(growing(40, 9)), reference_order(growing(40, 9)))
        self.assertEqual(len(most(growing(40, 9))), 9)
        self.assertIs(drops(growing(40, 9)), False)
        self.assertIs(are_orders(growing(40, 9), fewest(growing(40, 9))), True)

    def test_great_terms(self):
        tree = nested(6, lambda term: call(IDENTITY, term), END)
        for term in [term_of_nodes(400), tree, nested(57, lambda term: call(IDENTITY, term), END), wide_calls(99)]:
            self.assertEqual(normal(term), reference.normal(term))
            for order in (fewest(term), most(term)):
                self.assertIs(are_orders(term, order), True)


def wide_calls(many):
    if many == 1:
        return IDENTITY
    return call(wide_calls(many // 2), wide_calls(many - many // 2))


def reference_order(term):
    order = []
    while reference.doable(term):
        order.append(reference.doable(term)[0])
        term = reference.done(term, order[-1])
    return order


class AllOrders(unittest.TestCase):
    def check(self, term):
        orders = reference.all_orders(term)
        forms = [come for _, _, come in orders]
        self.assertTrue(all(same_but_names(form, normal(term)) for form in forms), term)
        self.assertEqual(len({repr(reference.without_names(form)) for form in forms}), 1, term)
        lengths = [len(order) for order, _, _ in orders]
        self.assertEqual(len(fewest(term)), min(lengths), term)
        self.assertEqual(len(most(term)), max(lengths), term)
        some_drop = {drop for _, drop, _ in orders}
        self.assertEqual(len(some_drop), 1, term)
        self.assertIs(drops(term), some_drop.pop())
        if not drops(term):
            self.assertEqual(len(set(lengths)), 1)
        paths = [order for order, _, _ in orders]
        self.assertIn(fewest(term), paths)
        self.assertIn(most(term), paths)
        for order in paths[:20]:
            self.assertIs(are_orders(term, order), True)
            if order:
                self.assertIs(are_orders(term, order[:-1]), False)
                self.assertIs(are_orders(term, order + [()]), False)

    def test_small_terms(self):
        for term in small_terms():
            self.check(term)

    def test_terms_with_several_calls(self):
        checked = 0
        for term in made_terms(300, 6):
            if 2 <= len(reference.doable(term)) and len(reference.most_order(term)) <= 6:
                checked += 1
                self.check(term)
        self.assertGreater(checked, 30)

    def test_terms_that_drop(self):
        drop = fun("u", T, END)
        within = call(drop, call(drop, call(IDENTITY, END)))
        for term in [within, call(TWO, within, within), call(drop, call(fun("x", T, call(drop, n("x"))), call(IDENTITY, END))),
                     call(fun("f", TT, call(n("f"), call(IDENTITY, END))), drop),
                     call(call(drop, call(IDENTITY, END)), call(drop, call(IDENTITY, call(IDENTITY, END)))),
                     call(drop, call(IDENTITY, call(drop, call(IDENTITY, END))))]:
            self.check(term)

    def test_which_paths(self):
        for term in [*small_terms(), *made_terms(100, 6)]:
            self.assertEqual(fewest(term), reference_order(term))
            self.assertEqual(most(term), reference.most_order(term))

    def test_examples(self):
        drop = fun("u", T, END)
        term = call(drop, call(IDENTITY, END))
        self.assertEqual(fewest(term=term), [()])
        self.assertEqual(most(term=term), [(2,), ()])
        self.assertIs(drops(term=term), True)
        self.assertIs(drops(call(IDENTITY, END)), False)
        self.assertIs(drops(END), False)
        self.assertIs(drops(drop), False)
        self.assertIs(drops(call(fun("f", TT, call(n("f"), END)), drop)), True)
        self.assertEqual(most(call(drop, call(drop, call(IDENTITY, END)))), [(2, 2), (2,), ()])
        self.assertEqual(most(END), [])
        self.assertEqual(fewest(END), [])


class AreOrders(unittest.TestCase):
    def test_examples(self):
        term = call(IDENTITY, call(IDENTITY, END))
        for order, right in [([(), ()], True), ([(2,), ()], True), ([()], False), ([], False), ([(), (2,)], False),
                             ([(), (), ()], False), ([(1,)], False), ([(2,)], False), ([[], ()], False), ([None], False)]:
            self.assertIs(are_orders(term, order), right, order)
        self.assertIs(are_orders(term=END, path_list=[]), True)
        self.assertIs(are_orders(END, [()]), False)

    def test_any_value(self):
        term = call(END, call(IDENTITY, END))
        self.assertIs(are_orders(term, [(2,)]), True)
        for value in [((2,),), [[2]], {0: (2,)}, {(2,): True}, "2", 2, True, None, [(2,), (2,)], [2], [(2.0,)], [("2",)],
                      [(True,)], *odd_values()]:
            self.assertIs(are_orders(term, value), False, value)
        first = call(call(IDENTITY, END), END)
        self.assertIs(are_orders(first, [(1,)]), True)
        self.assertIs(are_orders(first, [(True,)]), False)
        for value in odd_values():
            self.assertIs(are_orders(END, value), value == [] and isinstance(value, list))
            self.assertIs(are_orders(first, [value]), value == (1,) and value[0] is not True)

    def test_what_is_passed_in_is_left(self):
        term = call(IDENTITY, call(IDENTITY, END))
        order = [(2,), ()]
        are_orders(term, order)
        self.assertEqual(order, [(2,), ()])
        told = fewest(term)
        told.append(1)
        self.assertEqual(fewest(term), [(), ()])

    def test_wrong(self):
        for value in NO_TERMS:
            self.assertRaises(BadTerm, are_orders, value, 3)
        refused(self, are_orders, {"term": END, "path_list": []}, [("term", BadTerm, NO_TERMS)])


if __name__ == "__main__":
    unittest.main()
