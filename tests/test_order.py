"""Point 44: terms that use things in the order in which they are bound, and tables whose links do not cross."""

import unittest

import reference
from drawn import drawn_program, drawn_programs, leading_program
from oneuseheads.errors import BadKind, BadProgram, BadTable, BadTerm, TooMany
from oneuseheads.order import crossing, is_ordered, is_ordered_program, line
from oneuseheads.programs import is_program
from oneuseheads.reducing import doable, done
from oneuseheads.shapes import groups, powers, turned_round
from oneuseheads.signs import turning
from oneuseheads.tables import called, table
from oneuseheads.terms import is_term
from samples import DOUBLED, DROPPING, END, FORGETTING, HIGH, IDENTITY, Numbers, PROGRAMS, T, THERE_AND_BACK, TT, TTT, TURNED, call
from samples import copied, fun, made_kind, n, nested, odd_values, put, refused, texts_to, to
from test_alltexts import words_led
from test_programs import BAD_PROGRAMS, great_program
from test_tables import APPLIED, NO_KINDS, closed_terms, table_by_chance
from test_walks import programs

PAIR = fun("x", T, fun("y", T, n("x")))
SWAPPED = fun("f", TTT, fun("x", T, fun("y", T, call(n("f"), n("y"), n("x")))))
KEPT = fun("f", TTT, fun("x", T, fun("y", T, call(n("f"), n("x"), n("y")))))


def uses_by_words(term):
    """The uses by the words of the point, ValueError for "no"."""
    if term[0] == "name":
        return [term[1]]
    if term[0] == "end":
        return []
    if term[0] == "put":
        return uses_by_words(term[2])
    if term[0] == "call":
        return uses_by_words(term[1]) + uses_by_words(term[2])
    found = uses_by_words(term[3])
    if term[1] in found:
        if found.index(term[1]) != len(found) - 1:
            raise ValueError
        found.remove(term[1])
    return found


def ordered_by_words(term):
    try:
        uses_by_words(term)
    except ValueError:
        return False
    return True


def line_by_words(kind):
    """The line, with the ends told by the paths to them."""
    def go(part, path):
        if part == T:
            return [path]
        return go(part[1], path + (1,))[::-1] + go(part[2], path + (2,))

    found = go(kind, ())
    numbers = {path: at for at, path in enumerate(sorted(found))}
    return [numbers[path] for path in found]


def crossing_by_words(kind, links):
    places = {end: at for at, end in enumerate(line_by_words(kind))}
    found = []
    pairs = [(end, goal) for end, _, goal in links if goal is not None]
    for one in pairs:
        for other in pairs:
            if one < other:
                between = range(min(places[end] for end in one) + 1, max(places[end] for end in one))
                if sum(places[end] in between for end in other) == 1:
                    found.append((one, other))
    return min(found, default=None)


class IsOrdered(unittest.TestCase):
    def test_examples(self):
        for term, wanted in [(END, True), (IDENTITY, True), (PAIR, True), (KEPT, True), (SWAPPED, False), (fun("x", T, fun("y", T, END)), True),
                             (fun("x", T, fun("y", T, n("y"))), True), (fun("f", TT, fun("x", T, call(n("f"), n("x")))), True),
                             (fun("x", T, fun("f", TT, call(n("f"), n("x")))), False), (put("a", call(IDENTITY, END)), True),
                             (fun("f", TT, fun("g", TT, fun("x", T, call(n("f"), call(n("g"), n("x")))))), True),
                             (fun("f", TT, fun("g", TT, fun("x", T, call(n("g"), call(n("f"), n("x")))))), False),
                             (fun("f", TT, fun("x", T, put("a", call(n("f"), put("b", n("x")))))), True),
                             # Names that are bound anew, and beside each other.
                             (fun("x", T, fun("x", T, n("x"))), True), (fun("x", T, call(fun("x", T, n("x")), n("x"))), True),
                             (fun("x", T, call(fun("y", T, n("x")), END)), True), (fun("x", T, fun("y", T, call(fun("z", T, n("x")), n("y")))), True),
                             (fun("x", T, fun("y", T, call(fun("z", T, n("y")), n("x")))), False),
                             # "No" deep within, also in what is dropped.
                             (call(fun("z", to(TTT, TTT), END), SWAPPED), False), (fun("x", T, call(fun("z", to(TTT, TTT), n("x")), SWAPPED)), False)]:
            self.assertIs(is_ordered(term), wanted, term)
            self.assertIs(is_ordered(term=term), wanted)

    def test_by_the_words(self):
        seen = {True: 0, False: 0}
        for _, term in closed_terms(400):
            self.assertIs(is_ordered(term), ordered_by_words(term))
            seen[is_ordered(term)] += 1
        self.assertGreater(min(seen.values()), 20)

    def test_programs(self):
        for value, wanted in [(TURNED, True), (DOUBLED, True), (FORGETTING, True), (DROPPING, True), (THERE_AND_BACK, True)]:
            self.assertIs(is_ordered_program(value), wanted)
            self.assertIs(is_ordered_program(program=value), wanted)
        # All steps, and the steps alone.
        swap, keep = [(1, ""), (0, "")], [(0, "p"), (1, "")]
        self.assertIs(is_ordered_program(words_led(2, [("a", "", keep), ("b", "", swap)])), False)
        self.assertIs(is_ordered_program(words_led(2, [("a", "", swap), ("b", "", keep)])), False)
        self.assertIs(is_ordered_program(words_led(2, [("a", "", keep), ("b", "r", keep)])), True)
        kind = to(TTT, T)
        turned = fun("f", TTT, call(SWAPPED, n("f"), END, END))
        steps = (("a", fun("v", kind, n("v"))),)
        value = ("program", kind, turned, steps, fun("v", kind, call(n("v"), PAIR)))
        self.assertIs(is_ordered(turned), False)
        self.assertIs(is_ordered_program(value), True)

    def test_wrong(self):
        bad = [*odd_values(), n("x"), fun("x", T, n("y")), call(END, END), put("a", n("x")), nested(60, lambda inner: put("a", inner), END)]
        refused(self, is_ordered, {"term": IDENTITY}, [("term", BadTerm, bad)])
        refused(self, is_ordered_program, {"program": TURNED}, [("program", BadProgram, [*BAD_PROGRAMS, great_program(31)])])


class Line(unittest.TestCase):
    def test_examples(self):
        self.assertEqual(line(T), [0])
        self.assertEqual(line(kind=TT), [0, 1])
        self.assertEqual(line(TTT), [0, 1, 2])
        self.assertEqual(line(to(TT, TT)), [1, 0, 2, 3])
        self.assertEqual(line(to(TT, T)), [1, 0, 2])
        self.assertEqual(line(to(to(TT, T), T)), [2, 0, 1, 3])

    def test_by_the_words(self):
        for ends in range(1, 61):
            for seed in range(4):
                kind = made_kind(Numbers(seed * 100 + ends), ends)
                self.assertEqual(line(kind), line_by_words(kind))
                self.assertEqual(sorted(line(kind)), list(range(ends)))

    def test_new_each_time(self):
        told = line(TT)
        told.append(7)
        self.assertEqual(line(TT), [0, 1])

    def test_wrong(self):
        refused(self, line, {"kind": TT}, [("kind", BadKind, NO_KINDS)])


class Crossing(unittest.TestCase):
    def test_examples(self):
        self.assertIsNone(crossing(T, ((0, "a", None),)))
        self.assertIsNone(crossing(kind=to(TT, TT), table=APPLIED))
        double = to(TTT, TTT)
        self.assertIsNone(crossing(double, table(KEPT)))
        self.assertEqual(table(SWAPPED), ((0, "", 4), (1, "", 3), (5, "", 2)))
        self.assertEqual(crossing(double, table(SWAPPED)), ((0, 4), (1, 3)))
        # None crosses nothing.
        self.assertIsNone(crossing(double, ((0, "", 4), (1, "", None), (5, "", 2))))
        self.assertIsNone(crossing(double, ((0, "", None), (1, "", None), (5, "a", 2))))

    def test_by_the_words(self):
        numbers = Numbers(841)
        seen = {True: 0, False: 0}
        for _ in range(400):
            kind = made_kind(numbers, 1 + numbers.below(14))
            links = table_by_chance(numbers, kind)
            held = copied(links, {})
            told = crossing(kind, links)
            self.assertEqual(told, crossing_by_words(kind, links))
            self.assertEqual(links, held)
            seen[told is None] += 1
        self.assertGreater(min(seen.values()), 60)

    def test_wrong(self):
        bad = [*odd_values(), ((0, "a", 2),), [*APPLIED], APPLIED[::-1], ((0, "a", 2), (3, "", 2)), ((True, "a", 2), (3, "", 1))]
        refused(self, crossing, {"kind": to(TT, TT), "table": APPLIED}, [("kind", BadKind, NO_KINDS), ("table", BadTable, bad)])


def ordered_term(numbers, kind, names, fuel):
    """A closed term by chance that uses its names in their order; names is a list of pairs, all of which may be used."""
    if kind != T:
        name = "v" + reference.name_of_end(len(names) + 30) + reference.name_of_end(numbers.below(600))
        return fun(name, kind[1], ordered_term(numbers, kind[2], [*names, (name, kind[1])], fuel))
    if fuel > 0 and numbers.below(4) == 0:
        return put(numbers.one_of(["a", "b", "zz"]), ordered_term(numbers, T, names, fuel - 1))
    if fuel > 0 and numbers.below(4) == 0:
        handed = made_kind(numbers, 1 + numbers.below(3))
        cut = numbers.below(len(names) + 1)
        return call(ordered_term(numbers, to(handed, T), names[:cut], fuel - 2), ordered_term(numbers, handed, names[cut:], fuel - 2))
    if not names or numbers.below(8) == 0:
        return END
    at = numbers.below(len(names))
    come, has, rest = n(names[at][0]), names[at][1], names[at + 1:]
    while has != T:
        cut = numbers.below(len(rest) + 1) if has[2] != T else len(rest)
        come = call(come, ordered_term(numbers, has[1], rest[:cut], fuel - 1))
        has, rest = has[2], rest[cut:]
    return come


class Hearts(unittest.TestCase):
    def test_normal_terms_are_ordered_just_if_nothing_crosses(self):
        seen = {True: 0, False: 0}
        for kind, term in closed_terms(1500):
            links = table(term)
            for normal in (reference.normal(term), reference.whole(reference.normal(term), kind)):
                if is_term(normal):
                    self.assertIs(is_ordered(normal), crossing(kind, links) is None, normal)
            seen[crossing(kind, links) is None] += 1
        self.assertGreater(min(seen.values()), 20)

    def test_reducing_keeps_the_order(self):
        numbers = Numbers(842)
        seen = 0
        for _ in range(250):
            kind = made_kind(numbers, 1 + numbers.below(6))
            term = ordered_term(numbers, kind, [], 8)
            if not is_term(term):
                continue
            self.assertIs(is_ordered(term), True)
            self.assertIsNone(crossing(kind, table(term)))
            while doable(term):
                try:
                    term = done(term, numbers.one_of(doable(term)))
                except TooMany:
                    break
                self.assertIs(is_ordered(term), True)
                seen += 1
        self.assertGreater(seen, 200)

    def test_calls_of_tables_that_do_not_cross(self):
        numbers = Numbers(843)
        found = 0
        for _ in range(600):
            kind, other = made_kind(numbers, 1 + numbers.below(5)), made_kind(numbers, 1 + numbers.below(5))
            one, two = table_by_chance(numbers, to(kind, other)), table_by_chance(numbers, kind)
            if crossing(to(kind, other), one) is None and crossing(kind, two) is None:
                self.assertIsNone(crossing(other, called(to(kind, other), one, two)))
                found += 1
        self.assertGreater(found, 100)

    def test_programs_have_no_groups_and_no_turnings(self):
        numbers = Numbers(844)
        seen = {True: 0, False: 0}
        values = [*PROGRAMS, *programs(30), *drawn_programs(numbers, 60), *[drawn_program(numbers, 7, "ab") for _ in range(40)],
                  *[ordered_program(numbers) for _ in range(60)], *[leading_program(numbers, 3) for _ in range(10)]]
        for value in values:
            ordered = is_ordered_program(value)
            self.assertIs(ordered, all(ordered_by_words(step) for _, step in value[3]))
            seen[ordered] += 1
            if ordered:
                self.assertIsNone(turned_round(value))
                self.assertEqual(groups(value), [])
                self.assertIsNone(turning(value, "first"))
                self.assertIsNone(turning(value, "last"))
                for letter, _ in value[3]:
                    self.assertEqual(powers(value, letter * 2 + value[3][0][0])[1], 1)
        self.assertGreater(min(seen.values()), 20)


def ordered_program(numbers):
    """A program whose terms use everything in order."""
    kind = numbers.one_of([T, TT, TTT, HIGH, to(TT, TT), made_kind(numbers, 1 + numbers.below(6))])
    steps = tuple((letter, ordered_term(numbers, to(kind, kind), [], 5)) for letter in numbers.one_of(["a", "ab", "abc"]))
    value = ("program", kind, ordered_term(numbers, kind, [], 5), steps, ordered_term(numbers, to(kind, T), [], 5))
    return value if is_program(value) else ordered_program(numbers)


class Limits(unittest.TestCase):
    def test_kinds_of_sixty_ends(self):
        self.assertEqual(line(texts_to(59)), list(range(60)))
        deep = nested(59, lambda kind: ("to", kind, T), T)
        self.assertEqual(line(deep), line_by_words(deep))
        wide = texts_to(29)
        self.assertIsNone(crossing(to(wide, wide), table(fun("x", wide, n("x")))))
        self.assertIs(is_ordered(fun("x", wide, n("x"))), True)
        self.assertIs(is_ordered(nested(59, lambda inner: put("a", inner), END)), True)


if __name__ == "__main__":
    unittest.main()
