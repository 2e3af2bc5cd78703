"""Points 64 to 66: patterns of kinds, the principal pattern of a bare term, and the terms that are told by patterns."""

import unittest
from itertools import product

import reference
from oneuseheads.bare import bare_normal, bared, is_bare
from oneuseheads.errors import BadBare, BadKind, BadKinds, BadPattern, TooMany
from oneuseheads.finding import dressed, filled, fits, is_pattern, links_of, principal, told_by
from oneuseheads.kinds import is_kind
from oneuseheads.tables import table
from oneuseheads.terms import is_closed, kind_of
from samples import Numbers, T, TT, copied, made_kind, nested, odd_values, refused, spoiled, texts_to, to
from test_bare import BAD_BARE, BARE_IDENTITY, bare_of_nodes, bfun, many_bare_terms, right_bare
from test_kinds import TOO_GREAT

ONE = ("any", 0)
SAME = ("to", ONE, ONE)
APPLY = ("fun", "f", ("fun", "x", ("call", ("name", "f"), ("name", "x"))))
APPLY_PATTERN = ("to", ("to", ("any", 0), ("any", 1)), ("to", ("any", 0), ("any", 1)))


def b(*parts):
    """A bare term from short words: names, and tuples of what is called and what it is handed."""
    come = parts[0] if isinstance(parts[0], tuple) else ("name", parts[0])
    for part in parts[1:]:
        come = ("call", come, ("name", part) if isinstance(part, str) else part)
    return come


def ends(pattern):
    return [pattern[1]] if pattern[0] == "any" else ends(pattern[1]) + ends(pattern[2])


def signed(pattern, asked=True):
    if pattern[0] == "any":
        return [(asked, pattern[1])]
    return signed(pattern[1], not asked) + signed(pattern[2], asked)


def numbered(pattern):
    """The pattern with its ends numbered as they first come."""
    order = list(dict.fromkeys(ends(pattern)))

    def go(part):
        return ("any", order.index(part[1])) if part[0] == "any" else ("to", go(part[1]), go(part[2]))

    return go(pattern)


def with_kinds(pattern, kinds):
    return kinds[pattern[1]] if pattern[0] == "any" else ("to", with_kinds(pattern[1], kinds), with_kinds(pattern[2], kinds))


def right_pattern(value):
    """By the words of the point."""
    def has_form(part):
        if type(part) is not tuple or not part or type(part[0]) is not str:
            return False
        if part[0] == "any":
            return len(part) == 2 and type(part[1]) is int
        return part[0] == "to" and len(part) == 3 and has_form(part[1]) and has_form(part[2])

    return has_form(value) and len(ends(value)) <= 400 and list(dict.fromkeys(ends(value))) == list(range(len(set(ends(value)))))


class Unify:
    """Kinds with numbers for what is open, found the plain way: what is asked is put in wherever it stands."""

    def __init__(self, bare):
        self.known = {}
        self.many = 0
        self.parts = []
        self.root = self.kind(bare, {})

    def new(self):
        self.many += 1
        return ("any", self.many)

    def seen(self, kind):
        if kind[0] == "any":
            return self.seen(self.known[kind[1]]) if kind[1] in self.known else kind
        return kind if kind == T else ("to", self.seen(kind[1]), self.seen(kind[2]))

    def same(self, one, other):
        while one[0] == "any" and one[1] in self.known:
            one = self.known[one[1]]
        while other[0] == "any" and other[1] in self.known:
            other = self.known[other[1]]
        if one == other:
            return
        if one[0] == "any":
            self.known[one[1]] = other
        elif other[0] == "any":
            self.known[other[1]] = one
        else:
            assert one != T and other != T
            self.same(one[1], other[1])
            self.same(one[2], other[2])

    def kind(self, bare, names):
        if bare[0] == "name":
            found = names[bare[1]]
        elif bare[0] == "fun":
            bound = self.new()
            at = len(self.parts)
            self.parts.append(None)
            found = ("to", bound, self.kind(bare[2], {**names, bare[1]: bound}))
            self.parts[at] = ("bound", bound)
        else:
            caller = self.kind(bare[1], names)
            handed = self.kind(bare[2], names)
            found = self.new()
            self.same(caller, ("to", handed, found))
        self.parts.append(("part", found))
        return found


def pattern_by_hand(bare):
    found = Unify(bare)
    return numbered(found.seen(found.root))


def dressed_by_hand(bare, kind):
    """The term, None, or "many"."""
    found = Unify(bare)
    pattern = found.seen(found.root)
    comes = {}

    def put_in(part, told):
        if part[0] == "any":
            return comes.setdefault(part[1], told) == told
        return told != T and put_in(part[1], told[1]) and put_in(part[2], told[2])

    if not put_in(pattern, kind):
        return None
    found.same(found.root, kind)

    def closed(part):
        part = found.seen(part)
        return with_texts(part)

    def with_texts(part):
        return T if part[0] in ("any", "text") else ("to", with_texts(part[1]), with_texts(part[2]))

    kinds = [(word, closed(part)) for word, part in found.parts]
    if any(reference.size(told) > 60 for _, told in kinds):
        return "many"
    bound = iter([told for word, told in kinds if word == "bound"])

    def go(part):
        if part[0] == "name":
            return part
        if part[0] == "fun":
            told = next(bound)
            return ("fun", part[1], told, go(part[2]))
        one = go(part[1])
        return ("call", one, go(part[2]))

    return go(bare)


def many_of(pattern):
    return len(set(ends(pattern)))


def drawn_normal(numbers, most_names, unused=0):
    """A closed normal bare term, be it too great, with so many names at most that are used, and some unused funs.

    Its names are those of the row, as the funs begin.
    """
    left = [most_names, unused]
    row = reference.row_of_names()

    def goal(scope, deep):
        names = [next(row)]
        while left[1] > 0 and len(names) < 3 and numbers.below(2):
            left[1] -= 1
            names.append(next(row))
        left[0] -= 1
        inner = scope + [names[0]]
        used = inner.pop(numbers.below(len(inner)))
        come = ("name", used)
        while left[0] > 0 and numbers.below(3) < 2 and deep < 15:
            mine = [name for name in inner if numbers.below(2)]
            inner = [name for name in inner if name not in mine]
            come = ("call", come, goal(mine, deep + 1))
        for name in reversed(names):
            come = ("fun", name, come)
        return come

    return named(goal([], 0))


def named(bare):
    row = reference.row_of_names()

    def go(part, names):
        if part[0] == "name":
            return ("name", names[part[1]])
        if part[0] == "fun":
            name = next(row)
            return ("fun", name, go(part[2], {**names, part[1]: name}))
        one = go(part[1], names)
        return ("call", one, go(part[2], names))

    return go(bare, {})


def all_bare(size, free=()):
    """All closed bare terms with so many nodes, their names in the order of the row, each used once at most."""
    def go(many, bound):
        if many == 1:
            return [("name", name) for name in bound]
        found = [("fun", name, body) for name in ["x" + reference.name_of_end(len(bound))] for body in go(many - 1, bound + (name,))]
        for left in range(1, many - 1):
            for one in go(left, bound):
                for other in go(many - 1 - left, bound):
                    found.append(("call", one, other))
        return found

    return [term for term in go(size, free) if right_bare(term)]


def all_patterns(many):
    """All patterns with so many ends."""
    def shapes(count):
        if count == 1:
            return [("any", 0)]
        return [("to", one, other) for left in range(1, count) for one in shapes(left) for other in shapes(count - left)]

    def numbers(count):
        rows = [()]
        for _ in range(count):
            rows = [row + (n,) for row in rows for n in range(len(set(row)) + 1)]
        return rows

    found = []
    for shape in shapes(many):
        for row in numbers(many):
            told = iter(row)

            def go(part, its=told):
                if part[0] == "any":
                    return ("any", next(its))
                one = go(part[1])
                return ("to", one, go(part[2]))

            found.append(go(shape))
    return found


def long_pattern(many):
    """A pattern of a function that is handed things of one sort."""
    return nested(many - 1, lambda inner: ("to", ("any", 0), inner), ONE)


def deep_pattern(many):
    return nested(many - 1, lambda inner: ("to", inner, ("any", 0)), ONE)


BAD_PATTERNS = [*odd_values(), T, TT, ("any",), ("any", 1), ("any", -1), ("any", True), ("any", False), ("any", None), ("any", "0"), ["any", 0],
                ("any", 0, 0), ("any", (0,)), ("to", ONE), ("to", ONE, ("any", 2)), ("to", ("any", 1), ONE), ("to", ONE, T), ("to", ONE, ONE, ONE),
                ("to", ONE, ["any", 0]), ["to", ONE, ONE], ("to", ONE, ("any", True)), ("ANY", 0), ("to", SAME, ("to", ONE, ("any", 3))),
                long_pattern(401), deep_pattern(401), nested(290, lambda inner: ("to", inner, inner), ONE), ("any", 10 ** 29), {"any": 0}]
ALL_BARE = [term for size in range(1, 10) for term in all_bare(size)]


class Patterns(unittest.TestCase):
    def test_is_pattern(self):
        for value in [ONE, SAME, APPLY_PATTERN, ("to", ONE, ("any", 1)), ("to", ("any", 0), ("to", ("any", 1), ("any", 0))), long_pattern(400),
                      deep_pattern(290), nested(399, lambda inner: ("to", ONE, inner), ONE)]:
            self.assertIs(is_pattern(value), True)
        self.assertIs(is_pattern(value=SAME), True)
        for value in BAD_PATTERNS:
            self.assertIs(is_pattern(value), False, value)
        for value in [APPLY_PATTERN, SAME, ("to", ("to", ONE, ("any", 1)), ("to", ("any", 2), ("any", 1)))]:
            for other in spoiled(value):
                self.assertIs(is_pattern(other), right_pattern(other), other)

    def test_all_small_ones(self):
        for many in range(1, 5):
            found = all_patterns(many)
            self.assertEqual(len(found), len(set(found)))
            for value in found:
                self.assertIs(is_pattern(value), True)
        # One end for each text of a pattern of 400 unlike ends.
        row = iter(range(400))
        wide = nested(399, lambda inner: ("to", inner, ("any", next(row))), ("any", next(row)))
        self.assertIs(is_pattern(wide), True)
        self.assertIs(is_pattern(("to", ("any", 0), wide)), False)

    def test_filled(self):
        self.assertEqual(filled(ONE, [TT]), TT)
        self.assertEqual(filled(pattern=APPLY_PATTERN, kinds=(T, TT)), to(to(T, TT), T, TT))
        self.assertEqual(filled(SAME, [T]), TT)
        for many in range(1, 5):
            for pattern in all_patterns(many):
                kinds = [made_kind(Numbers(811 + at), at + 1) for at in range(many_of(pattern))]
                held = copied((pattern, kinds), {})
                self.assertEqual(filled(pattern, kinds), with_kinds(pattern, kinds))
                self.assertEqual((pattern, kinds), held)

    def test_filled_with_sixty_ends_and_more(self):
        self.assertIs(is_kind(filled(SAME, [texts_to(29)])), True)
        self.assertEqual(filled(ONE, [texts_to(59)]), texts_to(59))
        self.assertEqual(filled(long_pattern(60), [T]), texts_to(59))
        self.assertEqual(filled(("to", ONE, ("any", 1)), [texts_to(29), texts_to(29)]), to(texts_to(29), texts_to(29)))
        for pattern, kinds in [(SAME, [texts_to(30)]), (long_pattern(61), [T]), (long_pattern(400), [T]), (deep_pattern(290), [T]),
                               (("to", ONE, ("any", 1)), [texts_to(29), texts_to(30)]), (long_pattern(31), [TT]),
                               (("to", ONE, ("any", 1)), [T, texts_to(59)])]:
            self.assertRaises(BadKind, filled, pattern, kinds)

    def test_fits(self):
        self.assertEqual(fits(ONE, TT), (TT,))
        self.assertEqual(fits(pattern=APPLY_PATTERN, kind=to(to(T, TT), T, TT)), (T, TT))
        self.assertIsNone(fits(SAME, T))
        self.assertIsNone(fits(SAME, to(TT, T)))
        self.assertIsNone(fits(long_pattern(400), texts_to(59)))
        self.assertIsNone(fits(deep_pattern(290), texts_to(59)))
        numbers = Numbers(822)
        seen = {True: 0, False: 0}
        for many in (1, 2, 3, 3, 3, 4, 4, 4):
            for pattern in all_patterns(many):
                kinds = tuple(made_kind(numbers, 1 + numbers.below(4)) for _ in range(many_of(pattern)))
                kind = with_kinds(pattern, kinds)
                self.assertEqual(fits(pattern, kind), kinds)
                other = made_kind(numbers, reference.size(kind))
                told = fits(pattern, other)
                if told is None:
                    # No kinds at all can be put in: those that there could be are parts of it.
                    self.assertFalse(any(with_kinds(pattern, row) == other for row in product(parts_of(other), repeat=many_of(pattern))))
                else:
                    self.assertEqual(with_kinds(pattern, told), other)
                seen[told is None] += 1
        self.assertGreater(min(seen.values()), 20)

    def test_wrong(self):
        kinds_wrong = [*[value for value in odd_values() if value not in ([("text",)],)], [T], [T, T, T], (), [T, ["text"]], [T, "text"],
                       [[T, T]], {0: T, 1: T}, "TT", [T, *TOO_GREAT[:1]], (T,)]
        refused(self, filled, {"pattern": APPLY_PATTERN, "kinds": [T, T]},
                [("pattern", BadPattern, BAD_PATTERNS), ("kinds", BadKinds, kinds_wrong), ("kinds", BadKind, [[texts_to(29), T]])])
        bad = [*odd_values(), *TOO_GREAT]
        refused(self, fits, {"pattern": APPLY_PATTERN, "kind": TT}, [("pattern", BadPattern, BAD_PATTERNS), ("kind", BadKind, bad)])
        for function in (told_by, links_of):
            refused(self, function, {"pattern": APPLY_PATTERN}, [("pattern", BadPattern, BAD_PATTERNS)])
        refused(self, principal, {"bare": APPLY}, [("bare", BadBare, [*BAD_BARE, ("name", "x"), ("fun", "x", ("name", "y"))])])
        refused(self, dressed, {"bare": APPLY, "kind": to(TT, TT)},
                [("bare", BadBare, [*BAD_BARE, ("name", "x"), ("fun", "x", ("name", "y"))]), ("kind", BadKind, bad)])


def parts_of(kind):
    return list(dict.fromkeys([kind] if kind == T else [kind, *parts_of(kind[1]), *parts_of(kind[2])]))


class Principal(unittest.TestCase):
    def test_examples(self):
        self.assertEqual(principal(APPLY), APPLY_PATTERN)
        self.assertEqual(principal(bare=BARE_IDENTITY), SAME)
        self.assertEqual(principal(bfun("xy", ("name", "y"))), ("to", ("any", 0), ("to", ("any", 1), ("any", 1))))
        self.assertEqual(principal(bfun("xy", ("name", "x"))), ("to", ("any", 0), ("to", ("any", 1), ("any", 0))))
        self.assertEqual(principal(b(BARE_IDENTITY, BARE_IDENTITY)), SAME)
        # What is handed on as it is, and what is dropped.
        self.assertEqual(principal(b(bfun("x", b(bfun("zy", ("name", "y")), "x")), BARE_IDENTITY)), SAME)
        self.assertEqual(principal(bfun("f", b(bfun("zy", ("name", "y")), b("f", BARE_IDENTITY)))),
                         ("to", ("to", ("to", ("any", 0), ("any", 0)), ("any", 1)), ("to", ("any", 2), ("any", 2))))

    def test_all_small_ones(self):
        self.assertGreater(len(ALL_BARE), 300)
        for bare in ALL_BARE + many_bare_terms():
            if right_bare(bare):
                told = principal(bare)
                self.assertEqual(told, pattern_by_hand(bare))
                self.assertTrue(all(ends(told).count(end) <= 2 for end in set(ends(told))))

    def test_just_these_kinds(self):
        # All ways to tell small kinds at the funs: just those kinds come that the pattern tells.
        some = [T, TT, to(T, T, T), to(TT, T)]
        for bare in [bare for bare in ALL_BARE if str(bare).count("fun") <= 3][:250]:
            pattern = principal(bare)
            for told in product(some, repeat=str(bare).count("fun")):
                row = iter(told)

                def tell(part, its=row):
                    if part[0] == "name":
                        return part
                    if part[0] == "fun":
                        kind = next(its)
                        return ("fun", part[1], kind, tell(part[2]))
                    one = tell(part[1])
                    return ("call", one, tell(part[2]))

                kind = kind_of(tell(bare))
                if kind is not None:
                    self.assertIsNotNone(fits(pattern, kind))
            for kinds in product(some, repeat=min(many_of(pattern), 3)):
                kind = with_kinds(pattern, (*kinds, *[T] * many_of(pattern)))
                self.assertEqual(kind_of(dressed(bare, kind)), kind)

    def test_normal_forms(self):
        seen = set()
        for bare in ALL_BARE + many_bare_terms():
            if not right_bare(bare):
                continue
            normal = bare_normal(bare)
            own, its = principal(bare), principal(normal)
            # Patterns put for its ends make one of the other; the same if nothing is dropped.
            self.assertTrue(comes_of(its, own))
            if not drops(bare):
                self.assertEqual(own, its)
            seen.add((own == its, drops(bare)))
        self.assertEqual(len(seen), 3)

    def test_great_kinds_within(self):
        # Each name has a kind twice as great as the next one.
        chain = b(*[BARE_IDENTITY] * 59)
        self.assertEqual(principal(chain), SAME)
        self.assertRaises(TooMany, dressed, chain, TT)
        self.assertIsNone(dressed(chain, to(TT, T)))
        self.assertEqual(principal(bare_of_nodes(400)), pattern_by_hand(bare_of_nodes(400)))

    def test_many_ends(self):
        numbers = Numbers(823)
        sizes = set()
        for most in (20, 60, 120, 133) * 6:
            bare = drawn_normal(numbers, most)
            if right_bare(bare):
                self.assertEqual(principal(bare), pattern_by_hand(bare))
                sizes.add(len(ends(principal(bare))) // 20)
        self.assertGreater(len(sizes), 3)


def comes_of(pattern, other):
    """Whether the other pattern comes of one if patterns are put for its ends."""
    found = {}

    def go(part, told):
        if part[0] == "any":
            return found.setdefault(part[1], told) == told
        return told[0] == "to" and go(part[1], told[1]) and go(part[2], told[2])

    return go(pattern, other)


def uses(bare, name):
    if bare[0] == "name":
        return bare[1] == name
    if bare[0] == "fun":
        return bare[1] != name and uses(bare[2], name)
    return uses(bare[1], name) or uses(bare[2], name)


def drops(bare):
    """Whether some fun drops what it is handed."""
    if bare[0] == "name":
        return False
    if bare[0] == "fun":
        return not uses(bare[2], bare[1]) or drops(bare[2])
    return drops(bare[1]) or drops(bare[2])


def dropped_of_ends(many):
    """A bare term that drops a thing whose kind, with texts, has just so many ends."""
    names = ["x" + reference.name_of_end(at) for at in range(many - 1)]
    return b(bfun("zy", ("name", "y")), bfun(names, ("name", names[0])))


class Dressed(unittest.TestCase):
    def test_examples(self):
        self.assertEqual(dressed(APPLY, to(TT, TT)), ("fun", "f", TT, ("fun", "x", T, ("call", ("name", "f"), ("name", "x")))))
        self.assertEqual(dressed(bare=BARE_IDENTITY, kind=to(TT, TT)), ("fun", "x", TT, ("name", "x")))
        self.assertIsNone(dressed(BARE_IDENTITY, to(TT, T)))
        self.assertIsNone(dressed(BARE_IDENTITY, T))
        # Texts where nothing is told, also for what is dropped within.
        self.assertEqual(dressed(b(bfun("zy", ("name", "y")), BARE_IDENTITY), TT),
                         ("call", ("fun", "z", TT, ("fun", "y", T, ("name", "y"))), ("fun", "x", T, ("name", "x"))))

    def test_by_hand(self):
        numbers = Numbers(824)
        seen = {"none": 0, "many": 0, "term": 0}
        for bare in ALL_BARE + many_bare_terms():
            if not right_bare(bare):
                continue
            pattern = principal(bare)
            kinds = [made_kind(numbers, 1 + numbers.below(4)) for _ in range(many_of(pattern))]
            kind = with_kinds(pattern, kinds)
            for told in ([kind] if reference.size(kind) <= 60 else []) + [made_kind(numbers, 1 + numbers.below(7))]:
                wanted = dressed_by_hand(bare, told)
                if wanted == "many":
                    with self.assertRaises(TooMany) as found:
                        dressed(bare, told)
                    self.assertEqual(found.exception.most, 60)
                    seen["many"] += 1
                    continue
                come = dressed(bare, told)
                self.assertEqual(come, wanted)
                seen["none" if come is None else "term"] += 1
                if come is not None:
                    self.assertIs(is_closed(come), True)
                    self.assertEqual((kind_of(come), bared(come)), (told, bare))
        self.assertGreater(min(seen["none"], seen["term"]), 200)

    def test_sixty_ends_within(self):
        # The function that drops it has two ends more.
        for many in (20, 57, 58):
            come = dressed(dropped_of_ends(many), TT)
            self.assertEqual(kind_of(come), TT)
            self.assertEqual(reference.size(come[1][2]), many)
        with self.assertRaises(TooMany) as found:
            dressed(dropped_of_ends(59), TT)
        self.assertEqual(found.exception.most, 60)
        self.assertIsNone(dressed(dropped_of_ends(59), T))
        # The kinds told are small, but that of the function is not: and the kind that is asked for makes it so.
        twice = b(BARE_IDENTITY, BARE_IDENTITY)
        self.assertEqual(kind_of(dressed(twice, to(made_kind(Numbers(1), 15), made_kind(Numbers(1), 15)))), nested(1, lambda k: ("to", k, k), made_kind(Numbers(1), 15)))
        self.assertRaises(TooMany, dressed, twice, nested(1, lambda k: ("to", k, k), made_kind(Numbers(1), 16)))
        self.assertEqual(reference.size(kind_of(dressed(BARE_IDENTITY, to(texts_to(29), texts_to(29))))), 60)

    def test_new_each_time(self):
        held = copied(APPLY, {})
        self.assertEqual(dressed(APPLY, to(TT, TT)), dressed(APPLY, to(TT, TT)))
        self.assertEqual(APPLY, held)


class ToldBy(unittest.TestCase):
    def test_examples(self):
        self.assertEqual(told_by(APPLY_PATTERN), bfun("ab", b("a", "b")))
        self.assertEqual(told_by(pattern=SAME), ("fun", "a", ("name", "a")))
        self.assertIsNone(told_by(ONE))
        self.assertIsNone(told_by(("to", ("any", 0), ("any", 1))))
        # A term fits, but its own pattern is another one.
        self.assertIsNone(told_by(("to", SAME, ("to", ("any", 1), ("any", 1)))))
        self.assertIsNone(told_by(("to", ("any", 0), ("to", ("any", 0), ("any", 0)))))
        self.assertIsNone(told_by(("to", ("to", ONE, ONE), ("to", ONE, ONE))))
        self.assertEqual(told_by(("to", ("any", 0), ("to", ("any", 1), ("any", 1)))), bfun("ab", ("name", "b")))

    def test_all_small_patterns(self):
        # All closed normal bare terms by their patterns: nodes are at most 3 for each two ends.
        wanted = {}
        for size in range(2, 10):
            for bare in all_bare(size):
                if bare_normal(bare) == named(bare):
                    pattern = principal(bare)
                    self.assertIn(wanted.setdefault(pattern, named(bare)), [named(bare)])
        found = 0
        for many in range(1, 7):
            for pattern in all_patterns(many):
                self.assertEqual(told_by(pattern), wanted.get(pattern), pattern)
                found += pattern in wanted
        self.assertGreater(found, 60)

    def test_there_and_back(self):
        numbers = Numbers(825)
        sizes = set()
        for most in (3, 8, 20, 40, 80, 120, 133) * 8:
            bare = drawn_normal(numbers, most, numbers.below(4))
            if is_bare(bare):
                told = told_by(principal(bare))
                self.assertEqual(told, bare)
                self.assertEqual(bare_normal(told), told)
                sizes.add(len(ends(principal(bare))) // 25)
        self.assertGreater(len(sizes), 4)

    def test_near_patterns(self):
        numbers = Numbers(826)
        seen = {True: 0, False: 0}
        for most in (3, 4, 5, 6, 10) * 30:
            pattern = principal(drawn_normal(numbers, most))
            row = ends(pattern)
            at = numbers.below(len(row))
            row[at] = numbers.one_of(row + [max(row) + 1])
            told = iter(row)

            def go(part, its=told):
                if part[0] == "any":
                    return ("any", next(its))
                one = go(part[1])
                return ("to", one, go(part[2]))

            other = numbered(go(pattern))
            bare = told_by(other)
            seen[bare is None] += 1
            if bare is not None:
                self.assertEqual(principal(bare), other)
            elif other == pattern:
                self.fail(pattern)
        self.assertGreater(min(seen.values()), 15)

    def test_too_great_terms(self):
        # Nodes: three for each name that is used less 1, one for each that is not.
        numbers = Numbers(827)
        seen = set()
        for _ in range(120):
            bare = drawn_normal(numbers, numbers.one_of([132, 133, 134, 140]), numbers.below(5))
            pattern = pattern_by_hand(bare)
            fitting = right_bare(bare)
            self.assertEqual(told_by(pattern), bare if fitting else None)
            if len(ends(pattern)) > 260:
                seen.add((fitting, used_nodes(bare) - 400 if -2 < used_nodes(bare) - 400 < 2 else 0))
        self.assertIn((True, 0), seen)
        self.assertIn((False, 0), seen)
        for many, fits_in in [(59, True), (60, False), (199, False)]:
            names = [reference.name_of_end(at) for at in range(many)]
            bare = bfun(names, ("name", names[0]))
            self.assertEqual(told_by(pattern_by_hand(bare)), bare if fits_in else None)
        # Calls in a row: one name with so many arguments.
        for many, fits_in in [(27, True), (28, True), (29, True), (30, False)]:
            names = [reference.name_of_end(at) for at in range(many + 1)]
            bare = bfun(names, b(*names))
            self.assertEqual(reference.row(to_term(bare)), 2 * many + 2)
            self.assertEqual(told_by(pattern_by_hand(bare)), bare if fits_in else None)

    def test_patterns_that_stand_for_many_things(self):
        # What leads to more and more reading if a thing may be used twice.
        inner = ("any", 0)
        for at in range(1, 45):
            inner = ("to", ("to", ("any", at - 1), ("to", ("any", at - 1), ("any", at))), inner)
        self.assertIsNone(told_by(numbered(inner)))
        self.assertIsNone(told_by(long_pattern(400)))
        self.assertIsNone(told_by(deep_pattern(290)))


def to_term(bare):
    if bare[0] == "fun":
        return ("fun", bare[1], T, to_term(bare[2]))
    return ("call", to_term(bare[1]), to_term(bare[2])) if bare[0] == "call" else bare


def used_nodes(bare):
    return reference.nodes(to_term(bare))


def links_by_hand(pattern):
    row = signed(pattern)
    found = []
    for end, (asked, number) in enumerate(row):
        others = [(at, told) for at, (told, its) in enumerate(row) if its == number]
        if asked and len(others) == 2 and [told for _, told in others].count(True) == 1:
            found.append((end, "", [at for at, told in others if not told][0]))
    return tuple(found)


class LinksOf(unittest.TestCase):
    def test_examples(self):
        self.assertEqual(links_of(SAME), ((1, "", 0),))
        self.assertEqual(links_of(pattern=APPLY_PATTERN), ((0, "", 2), (3, "", 1)))
        self.assertEqual(links_of(ONE), ())
        self.assertEqual(links_of(("to", ONE, ("to", ONE, ONE))), ())
        self.assertEqual(links_of(("to", ONE, ("to", ONE, ("any", 1)))), ())
        self.assertEqual(links_of(("to", ("to", ONE, ONE), ("any", 1))), ((0, "", 1),))

    def test_by_hand(self):
        for many in range(1, 6):
            for pattern in all_patterns(many):
                self.assertEqual(links_of(pattern), links_by_hand(pattern))
        self.assertEqual(links_of(long_pattern(400)), ())
        row = iter(range(100))
        wide = nested(199, lambda inner: ("to", ("any", next(row)), inner) if row.__length_hint__() else ("to", ("any", 0), inner), ("any", 0))
        self.assertEqual(links_of(numbered(wide)), links_by_hand(numbered(wide)))
        deep = nested(290, lambda inner: ("to", inner, ("any", 0)), ("to", ("any", 1), ("any", 1)))
        self.assertEqual(links_of(numbered(deep)), links_by_hand(numbered(deep)))

    def test_is_the_table_of_normal_terms(self):
        numbers = Numbers(828)
        values = [bare for bare in ALL_BARE if bare_normal(bare) == named(bare)]
        values += [drawn_normal(numbers, 2 + numbers.below(14)) for _ in range(120)]
        seen = 0
        for bare in values:
            pattern = principal(bare)
            if len(ends(pattern)) <= 60:
                kind = with_kinds(pattern, [T] * many_of(pattern))
                self.assertEqual(table(dressed(bare, kind)), links_of(pattern))
                seen += 1
        self.assertGreater(seen, 150)

    def test_more_than_sixty_ends(self):
        numbers = Numbers(829)
        bare = drawn_normal(numbers, 100)
        self.assertGreater(len(ends(pattern_by_hand(bare))), 60)
        self.assertEqual(links_of(pattern_by_hand(bare)), links_by_hand(pattern_by_hand(bare)))


if __name__ == "__main__":
    unittest.main()
