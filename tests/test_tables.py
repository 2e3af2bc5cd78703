"""Points 22, 23 and 24: tables."""

import unittest

import reference
from oneuseheads.errors import BadKind, BadTable, BadTerm, TooMany
from oneuseheads.reducing import normal
from oneuseheads.tables import bare_tables, called, is_table, own_table, read_back, table, through
from oneuseheads.terms import is_closed, is_term, kind_of, same_but_names
from samples import END, HIGH, IDENTITY, Numbers, T, TT, TTT, call, fun, made_kind, made_loose, made_term, n, nested
from samples import odd_values, put, refused, spoiled, term_of_nodes, term_of_row, texts_to, to
from test_kinds import LEFT_SIXTY, SIXTY, TOO_GREAT, small_kinds
from test_reducing import growing, long_between, wide_calls
from test_terms import NO_TERMS

APPLY = fun("f", TT, fun("x", T, call(n("f"), put("a", n("x")))))
APPLIED = ((0, "a", 2), (3, "", 1))
NO_KINDS = [*odd_values(), *TOO_GREAT]
T2000 = to(TT, to(TT, T, T), T, to(TTT, T), TT, T, T)
T2001 = to(TT, to(TT, T), to(to(TT, TTT, T, T), T, T, T), T)


def closed_terms(many, fuel=6, most_ends=7):
    """Pairs of kinds and closed terms that have them."""
    numbers = Numbers(21)
    found = []
    while len(found) < many:
        kind = made_kind(numbers, 1 + numbers.below(most_ends))
        term = made_term(numbers, kind, [], fuel)
        if is_closed(term):
            found.append((kind, term))
    return found


def links_by_links(kind, words):
    """All ascending tuples of links of a kind with these words, no end twice."""
    rows = reference.ends_of(kind)
    goals = [None] + [end for end in range(len(rows)) if not rows[end][0]]
    found = [()]
    for end in range(len(rows)):
        if rows[end][0]:
            found += [links + ((end, word, goal),) for links in found for word in words for goal in goals]
    return found


class IsTable(unittest.TestCase):
    def test_tables(self):
        for kind, links in [(T, ((0, "", None),)), (T, ((0, "abc", None),)), (TT, ((1, "", 0),)), (TT, ((1, "q", None),)),
                            (to(TT, TT), APPLIED), (to(TT, TT), ((3, "", None),)), (to(TT, TT), ((0, "", None), (3, "", 1))),
                            (TTT, ((2, "", 0),)), (TTT, ((2, "", 1),)), (T, ((0, "z" * 400000, None),))]:
            self.assertIs(is_table(kind, links), True, (kind, links))
            self.assertIs(is_table(kind=kind, value=links), True)

    def test_no_tables(self):
        kind = to(TT, TT)
        for links in [(), ((3, "", 1),), ((0, "", 2),), ((3, "", 2), (0, "", 1)), ((0, "a", 2), (3, "", 2)), ((3, "", 0),),
                      ((0, "", 1), (3, "", 1)), ((3, "", 1), (0, "a", 2)), ((0, "a", 2), (3, "", None)), APPLIED * 2,
                      ((0, "", None), (0, "", 2), (3, "", 1)), ((0, "", 2), (3, "", 1), (3, "", 1)), ((3, "", 2), (3, "", 2)),
                      ((0, "a", 2), (2, "", None), (3, "", 1)), ((0, "a", 2), (3, "A", 1)), ((0, "a", 2), (3, "", 3))]:
            self.assertIs(is_table(kind, links), False, links)
        # A goal must be free where it is used: the inner end is not within the reading of the other one.
        two = to(to(TT, T), to(TT, T), T)
        for links in links_by_links(two, [""]):
            self.assertIs(is_table(two, links), links in reference.tables_of(two), links)

    def test_all_tuples_of_links(self):
        for kind in small_kinds(5):
            words = ["", "ab"] if reference.size(kind) <= 4 else [""]
            right = reference.tables_of(kind, words)
            for links in links_by_links(kind, words):
                self.assertIs(is_table(kind, links), links in right, (kind, links))

    def test_wrong_in_one_place(self):
        kind = to(TT, TT)
        right = {repr(links): True for links in reference.tables_of(kind, ["", "a", "ax", "A"[:0], "to", "end", "xx", "x"])}
        for links in [APPLIED, ((3, "x", None),), ((0, "", None), (3, "a", 1))]:
            for value in spoiled(links):
                self.assertIs(is_table(kind, value), repr(value) in right, value)

    def test_any_value(self):
        for value in odd_values():
            for kind in (T, TT, to(TT, TT), SIXTY):
                self.assertIs(is_table(kind, value), False)
        for value in [((True, "", 0),), ((1, "", False),), ((1.0, "", 0),), [(1, "", 0)], ([1, "", 0],), ((1, ["a"], 0),),
                      ((1, "", 0, 0),), ((1, ""),), ((1, "", "0"),), ((-1, "", 0),), ((1, "", -2),), ((1, "", 2),),
                      ((0, "", 1),), ((1, "", 1),), ((1, "A", 0),), ((1, None, 0),), ((1, 0, 0),)]:
            self.assertIs(is_table(TT, value), False, value)
        self.assertIs(is_table(T, ((False, "", None),)), False)

    def test_wrong(self):
        refused(self, is_table, {"kind": TT, "value": ()}, [("kind", BadKind, NO_KINDS)])


class ReadBack(unittest.TestCase):
    def test_example(self):
        self.assertEqual(table(fun("f", TT, fun("x", T, call(n("f"), put("a", n("x")))))), APPLIED)
        self.assertEqual(read_back(to(TT, TT), APPLIED), fun("b", TT, fun("c", T, call(n("b"), put("a", n("c"))))))
        self.assertEqual(read_back(kind=T, table=((0, "ab", None),)), put("ab", END))

    def test_names_of_ends(self):
        self.assertEqual(read_back(texts_to(29), ((29, "", 27),)),
                         nested_funs([reference.name_of_end(end) for end in range(29)], n("ab")))
        self.assertEqual(read_back(texts_to(58), ((58, "", 57),)),
                         nested_funs([reference.name_of_end(end) for end in range(58)], n("bf")))

    def test_read_back_is_the_one_with_this_table(self):
        for kind in small_kinds(6):
            for links in reference.tables_of(kind, ["", "ab"] if reference.size(kind) < 6 else ["q"]):
                term = read_back(kind, links)
                self.assertEqual(term, reference.written_whole(kind, links))
                self.assertTrue(is_closed(term))
                self.assertEqual(kind_of(term), kind)
                self.assertEqual(normal(term), term)
                self.assertEqual(table(term), links)

    def test_all_of_sixty_ends(self):
        numbers = Numbers(23)
        for ends in (30, 31, 45, 60):
            kind = made_kind(numbers, ends)
            for _ in range(10):
                links = table_by_chance(numbers, kind)
                self.assertIs(is_table(kind, links), True)
                term = reference.written_whole(kind, links)
                if reference.row(term) <= 60:
                    self.assertEqual(read_back(kind, links), term)
                    self.assertEqual(table(term), links)
                else:
                    self.assertRaises(TooMany, read_back, kind, links)

    def test_four_hundred_nodes_and_sixty_in_a_row(self):
        kind = to(*[TT] * 8, T)
        chains = [(0, "a" * 50, 3), (2, "a" * 50, 5)]
        self.assertRaises(BadTable, read_back, kind, tuple(chains))
        self.check_many(T, ((0, "a" * 59, None),), None)
        self.check_many(T, ((0, "a" * 60, None),), 60)
        self.check_many(T, ((0, "a" * 399, None),), 60)
        self.check_many(T, ((0, "a" * 400, None),), 400)
        self.check_many(T, ((0, "a" * 100000, None),), 400)

    def test_four_hundred_nodes_in_few_rows(self):
        # Functions of two texts, handed on in a tree: so nodes are many and rows are short.
        kind = to(*[TTT] * 15, T)
        for words, most in [(30, None), (90, None)]:
            self.check_many(kind, tree_table(words), most)
        nodes = reference.nodes(reference.written_whole(kind, tree_table(0)))
        self.check_many(kind, tree_table(400 - nodes), None)
        self.check_many(kind, tree_table(401 - nodes), 400)
        # Too many nodes are told ahead of too many in a row.
        self.check_many(kind, tree_table(401 - nodes, last=70), 400)
        self.check_many(kind, tree_table(100, last=70), 60)

    def check_many(self, kind, links, most):
        self.assertIs(is_table(kind, links), True)
        term = reference_term_or_none(kind, links)
        if most is None:
            self.assertEqual(read_back(kind, links), term)
            self.assertTrue(is_term(term))
        else:
            self.assertTrue(term is None or not is_term(term))
            with self.assertRaises(TooMany) as found:
                read_back(kind, links)
            self.assertEqual(found.exception.most, most)

    def test_rows_through_each_argument(self):
        kind = to(to(T, T, T, T), T)
        rows = reference.ends_of(kind)
        self.assertEqual(reference.parts_of(rows, 3), [0, 1, 2])
        for longest in range(3):
            for many in range(50, 62):
                links = tuple((end, "a" * (many if end == longest else 0), None) for end in range(3)) + ((4, "", 3),)
                term = reference.written_whole(kind, links)
                if reference.row(term) <= 60:
                    self.assertEqual(read_back(kind, links), term)
                else:
                    self.assertRaises(TooMany, read_back, kind, links)

    def test_wrong(self):
        bad = [*odd_values(), ((0, "a", 2),), [*APPLIED], APPLIED[::-1], ((0, "a", 2), (3, "", 2)), ((True, "a", 2), (3, "", 1))]
        refused(self, read_back, {"kind": to(TT, TT), "table": APPLIED}, [("kind", BadKind, NO_KINDS), ("table", BadTable, bad)])


def nested_funs(names, body):
    for name in reversed(names):
        body = fun(name, T, body)
    return body


def reference_term_or_none(kind, links):
    return None if sum(len(link[1]) for link in links) > 800 else reference.written_whole(kind, links)


def tree_table(letters, last=None):
    """A table of ("to", TTT, .. T): function i is called with 2i + 1 and 2i + 2, and so many letters are put in it."""
    places = {}
    for number in range(15):
        places[3 * number] = 2 * number + 1
        places[3 * number + 1] = 2 * number + 2
    links = [[end, "", 3 * goal + 2 if goal < 15 else None] for end, goal in places.items()] + [[45, "", 2]]
    leaves = [link for link in links if link[2] is None]
    if last is not None:
        leaves[-1][1] = "z" * last
        letters -= last
    for at in range(letters):
        leaves[at % (len(leaves) - 1)][1] += "b"
    return tuple(tuple(link) for link in sorted(links, key=lambda link: link[0]))


def table_by_chance(numbers, kind):
    rows = reference.ends_of(kind)
    links, used, todo = [], {}, [(len(rows) - 1, [])]
    while todo:
        end, around = todo.pop()
        free = around + reference.parts_of(rows, end)
        goals = [goal for goal in free if goal not in used]
        goal = numbers.one_of(goals) if goals and numbers.below(9) else None
        used[goal] = True
        links.append((end, numbers.one_of(["", "", "a", "bc"]), goal))
        todo += [(part, free) for part in reference.parts_of(rows, goal)] if goal is not None else []
    return tuple(sorted(links, key=lambda link: link[0]))


class Table(unittest.TestCase):
    def test_tables(self):
        for term, links in [(END, ((0, "", None),)), (put("ab", END), ((0, "ab", None),)), (IDENTITY, ((1, "", 0),)),
                            (fun("x", T, END), ((1, "", None),)), (call(IDENTITY, put("a", END)), ((0, "a", None),)),
                            (fun("x", TT, n("x")), ((0, "", 2), (3, "", 1))), (call(fun("x", TT, n("x")), IDENTITY), ((1, "", 0),)),
                            (fun("x", T, fun("y", T, n("x"))), ((2, "", 0),)), (fun("x", T, fun("y", T, n("y"))), ((2, "", 1),)),
                            (fun("f", TT, put("a", call(n("f"), put("b", END)))), ((0, "b", None), (2, "a", 1)))]:
            self.assertEqual(table(term), links)
            self.assertEqual(table(term=term), links)

    def test_by_normal_forms(self):
        for kind, term in closed_terms(400):
            links = table(term)
            self.assertEqual(links, reference.table_by_normal_form(term, kind), term)
            self.assertIs(is_table(kind, links), True)
            whole = read_back(kind, links)
            self.assertEqual(table(whole), links)
            self.assertEqual(table(normal(term)), links)

    def test_same_table_exactly_if_same_normal_form(self):
        rows = {}
        for kind, term in closed_terms(600, fuel=4, most_ends=4):
            form = reference.whole(reference.normal(term), kind)
            self.assertTrue(is_term(form))
            rows.setdefault(repr(kind), []).append((table(term), form))
        renamed = 0
        for told in rows.values():
            for links, form in told[:60]:
                for other_links, other_form in told[:60]:
                    renamed += links == other_links and form != other_form
                    self.assertIs(links == other_links, same_but_names(form, other_form))
        self.assertGreater(renamed, 100)

    def test_normal_forms_with_long_rows(self):
        self.assertEqual(table(growing(40, 9)), ((0, "p" * 360, None),))
        self.assertEqual(table(long_between()), ((0, "", None),))
        self.assertEqual(table(fun("x", texts_to(29), n("x"))), own_table(texts_to(29)))
        self.assertEqual(table(term_of_row(60)), ((0, "a" * 59, None),))
        self.assertEqual(table(term_of_nodes(400)), ((0, table(term_of_nodes(400))[0][1], None),))
        self.assertEqual(table(wide_calls_of_kind(5)), ((1, "", 0),))
        kind = to(SIXTY[2], T)
        self.assertEqual(table(fun("f", SIXTY[2], END)), ((reference.size(kind) - 1, "", None),))

    def test_deep_kinds(self):
        deep = LEFT_SIXTY[1]
        wanted = reference.table_by_normal_form(fun("x", deep, END), ("to", deep, T))
        self.assertEqual(table(fun("x", deep, END)), wanted)
        thirty = nested(29, lambda kind: ("to", kind, T), T)
        self.assertEqual(table(fun("x", thirty, n("x"))), reference.table_by_normal_form(fun("x", thirty, n("x")), to(thirty, thirty)))

    def test_wrong(self):
        bad = [*NO_TERMS, n("x"), put("a", IDENTITY), call(END, END), fun("x", T, n("y")), call(IDENTITY, IDENTITY),
               fun("x", texts_to(59), END)]
        refused(self, table, {"term": APPLY}, [("term", BadTerm, bad)])


def wide_calls_of_kind(deep):
    """An identity of identities, deep within each other."""
    kinds = [TT]
    for _ in range(3):
        kinds.append(to(kinds[-1], kinds[-1]))
    come = IDENTITY
    for kind in kinds[:3] * deep:
        if kind == TT:
            come = call(fun("f", TT, n("f")), come)
        else:
            come = call(call(fun("g", to(TT, TT), n("g")), fun("f", TT, n("f"))), come)
    return come


class OwnAndBare(unittest.TestCase):
    def test_own_table(self):
        self.assertEqual(own_table(T), ((1, "", 0),))
        self.assertEqual(own_table(kind=TT), ((0, "", 2), (3, "", 1)))
        for kind in [*small_kinds(5), texts_to(29), nested(29, lambda kind: ("to", kind, T), T)]:
            self.assertEqual(own_table(kind), reference.table_by_normal_form(fun("x", kind, n("x")), to(kind, kind)))

    def test_own_table_of_more_than_thirty_ends(self):
        great = [texts_to(30), SIXTY, LEFT_SIXTY]
        refused(self, own_table, {"kind": texts_to(29)}, [("kind", BadKind, NO_KINDS), ("kind", (TooMany, {"most": 60}), great)])

    def test_bare_tables(self):
        self.assertEqual(bare_tables(T), [((0, "", None),)])
        self.assertEqual(bare_tables(kind=TT), [((1, "", None),), ((1, "", 0),)])
        self.assertEqual(bare_tables(TTT), [((2, "", None),), ((2, "", 0),), ((2, "", 1),)])
        self.assertEqual(bare_tables(to(TT, T)), [((0, "", None), (2, "", 1)), ((2, "", None),)])
        self.assertEqual(bare_tables(to(TT, TT)), [((0, "", None), (3, "", 1)), ((0, "", 2), (3, "", 1)), ((3, "", None),),
                                                   ((3, "", 2),)])

    def test_all_bare_tables(self):
        def place(links):
            return [(end, -1 if goal is None else goal) for end, _, goal in links]

        for kind in [*small_kinds(7), to(HIGH, HIGH, TT)]:
            self.assertEqual(bare_tables(kind), sorted(reference.tables_of(kind), key=place))
        for kind in small_kinds(5):
            self.assertTrue(all(is_table(kind, links) for links in bare_tables(kind)))
        told = bare_tables(TT)
        told.append(3)
        self.assertEqual(len(bare_tables(TT)), 2)

    def test_how_many(self):
        self.assertEqual(len(bare_tables(SIXTY)), 60)
        self.assertEqual(len(bare_tables(T2000)), 2000)
        self.assertEqual(len(set(bare_tables(T2000))), 2000)
        self.assertEqual(len(reference.tables_of(T2001)), 2001)
        great = [T2001, to(texts_to(29), texts_to(29)), to(*[TT] * 29, T)]
        refused(self, bare_tables, {"kind": T2000}, [("kind", BadKind, NO_KINDS), ("kind", (TooMany, {"most": 2000}), great)])


class Called(unittest.TestCase):
    def test_called(self):
        self.assertEqual(called(TT, ((1, "a", 0),), ((0, "bc", None),)), ((0, "abc", None),))
        self.assertEqual(called(TT, ((1, "a", None),), ((0, "bc", None),)), ((0, "a", None),))
        self.assertEqual(called(to(TT, TT), APPLIED, ((1, "b", 0),)), ((1, "ba", 0),))
        self.assertEqual(called(kind=to(TT, TT), table=APPLIED, argument=((1, "b", None),)), ((1, "b", None),))
        self.assertEqual(called(TTT, ((2, "q", 1),), ((0, "", None),)), ((1, "q", 0),))

    def test_table_of_call(self):
        numbers = Numbers(31)
        checked = 0
        while checked < 300:
            handed, kind = made_kind(numbers, 1 + numbers.below(6)), made_kind(numbers, 1 + numbers.below(5))
            one, other = made_term(numbers, to(handed, kind), [], 5), made_term(numbers, handed, [], 5)
            if is_closed(call(one, other)):
                checked += 1
                come = called(("to", handed, kind), table(one), table(other))
                self.assertEqual(come, table(call(one, other)))
                self.assertIs(is_table(kind, come), True)

    def test_of_all_small_tables(self):
        for kind in small_kinds(5)[1:]:
            for one in reference.tables_of(kind, ["a", "b"][:1 if reference.size(kind) > 4 else 2]):
                for other in reference.tables_of(kind[1], ["", "c"]):
                    wanted = reference.table_by_normal_form(call(read_back(kind, one), read_back(kind[1], other)), kind[2])
                    self.assertEqual(called(kind, one, other), wanted)

    def test_great_kinds(self):
        numbers = Numbers(37)
        for _ in range(60):
            kind = ("to", made_kind(numbers, 28), made_kind(numbers, 28))
            one, other = table_by_chance(numbers, kind), table_by_chance(numbers, kind[1])
            come = called(kind, one, other)
            self.assertIs(is_table(kind[2], come), True)
            term = call(reference.written_whole(kind, one), reference.written_whole(kind[1], other))
            self.assertEqual(come, reference.table_by_normal_form(term, kind[2]))

    def test_long_words(self):
        self.assertEqual(called(TT, ((1, "a" * 400000, 0),), ((0, "b" * 400000, None),)), ((0, "a" * 400000 + "b" * 400000, None),))

    def test_wrong(self):
        right = {"kind": to(TT, TT), "table": APPLIED, "argument": ((1, "", 0),)}
        bad = [*odd_values(), ((0, "a", 2),), [*APPLIED], ((1, "", 0),), ((0, "a", 2), (3, "", 2))]
        bad_argument = [*odd_values(), APPLIED, [(1, "", 0)], ((0, "", None),), ((1, "", 1),), ((1, "A", 0),), ()]
        refused(self, called, right, [("kind", BadKind, [*NO_KINDS, T]), ("table", BadTable, bad),
                                      ("argument", BadTable, bad_argument)])


class Through(unittest.TestCase):
    def test_through(self):
        self.assertEqual(through(T, ((1, "a", 0),), ((1, "b", 0),)), ((1, "ab", 0),))
        self.assertEqual(through(kind=T, one=((1, "a", None),), other=((1, "b", 0),)), ((1, "a", None),))
        self.assertEqual(through(TT, APPLIED, ((0, "b", 2), (3, "c", 1))), ((0, "ba", 2), (3, "c", 1)))

    def test_term(self):
        numbers = Numbers(41)
        for _ in range(200):
            kind = made_kind(numbers, 1 + numbers.below(5))
            one, other = [made_term(numbers, to(kind, kind), [], 5) for _ in range(2)]
            term = fun("q", kind, call(one, call(other, n("q"))))
            if is_closed(term):
                self.assertEqual(through(kind, table(one), table(other)), table(term))

    def test_associative_and_own(self):
        numbers = Numbers(43)
        kinds = [T, TT, TTT, HIGH, to(HIGH, T), made_kind(numbers, 15), made_kind(numbers, 30), texts_to(29)]
        for kind in kinds:
            for _ in range(20):
                one, two, three = [table_by_chance(numbers, to(kind, kind)) for _ in range(3)]
                self.assertEqual(through(kind, one, through(kind, two, three)), through(kind, through(kind, one, two), three))
                self.assertEqual(through(kind, one, own_table(kind)), one)
                self.assertEqual(through(kind, own_table(kind), one), one)
                self.assertIs(is_table(to(kind, kind), through(kind, one, two)), True)

    def test_all_small(self):
        for kind in (T, TT):
            told = reference.tables_of(to(kind, kind), ["", "a"])
            for one in told:
                for other in told[::3]:
                    double = to(kind, kind)
                    term = fun("qq", kind, call(read_back(double, one), call(read_back(double, other), n("qq"))))
                    self.assertEqual(through(kind, one, other), reference.table_by_normal_form(term, double))

    def test_wrong(self):
        right = {"kind": TT, "one": APPLIED, "other": APPLIED}
        bad = [*odd_values(), ((0, "a", 2),), [*APPLIED], ((1, "", 0),), ((0, "a", 2), (3, "", 2))]
        great = [texts_to(30), SIXTY, LEFT_SIXTY]
        refused(self, through, right, [("kind", BadKind, NO_KINDS), ("kind", (TooMany, {"most": 60}), great),
                                       ("one", BadTable, bad), ("other", BadTable, bad)])

    def test_loose_tables_are_none(self):
        numbers = Numbers(47)
        signs = [row[0] for row in reference.ends_of(to(TT, TT))]
        right = reference.tables_of(to(TT, TT), ["", "a", "bc"])
        for _ in range(200):
            links = made_loose(numbers, to(TT, TT), signs)
            if links in right:
                self.assertEqual(through(TT, links, own_table(TT)), links)
            else:
                self.assertRaises(BadTable, through, TT, links, own_table(TT))
                self.assertRaises(BadTable, through, TT, own_table(TT), links)


if __name__ == "__main__":
    unittest.main()
