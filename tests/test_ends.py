"""Point 21: ends, signs, parts."""

import unittest

import reference
from oneuseheads.ends import keeper, parts, signs
from oneuseheads.errors import BadEnd, BadKind
from samples import HIGH, Numbers, T, TT, TTT, made_kind, odd_values, refused, texts_to, to
from test_kinds import LEFT_SIXTY, SIXTY, TOO_GREAT, small_kinds


def some_kinds():
    numbers = Numbers(11)
    return [*small_kinds(6), SIXTY, LEFT_SIXTY, *[made_kind(numbers, ends) for ends in range(7, 61)]]


class Ends(unittest.TestCase):
    def test_example(self):
        kind = to(TT, TT)
        self.assertEqual(signs(kind), (True, False, False, True))
        self.assertEqual(parts(kind), {0: (), 1: (0,), 2: (), 3: (1, 2)})
        self.assertEqual([keeper(kind, end) for end in range(4)], [1, 3, 3, None])

    def test_small(self):
        self.assertEqual(signs(T), (True,))
        self.assertEqual(parts(T), {0: ()})
        self.assertIs(keeper(T, 0), None)
        self.assertEqual(signs(kind=TTT), (False, False, True))
        self.assertEqual(parts(kind=TTT), {0: (), 1: (), 2: (0, 1)})
        self.assertEqual(keeper(kind=TTT, end=1), 2)
        self.assertEqual(signs(to(HIGH, T)), (False, True, True, False, True))
        self.assertEqual(parts(to(HIGH, T)), {0: (), 1: (0,), 2: (), 3: (1, 2), 4: (3,)})

    def test_sixty_ends(self):
        self.assertEqual(signs(SIXTY), (False,) * 59 + (True,))
        self.assertEqual(parts(SIXTY)[59], tuple(range(59)))
        self.assertEqual(parts(LEFT_SIXTY), {0: (), **{end: (end - 1,) for end in range(1, 60)}})
        self.assertEqual(keeper(LEFT_SIXTY, 58), 59)

    def test_as_told_by_the_rules(self):
        for kind in some_kinds():
            rows = reference.ends_of(kind)
            self.assertEqual(signs(kind), tuple(row[0] for row in rows))
            self.assertEqual(parts(kind), {end: tuple(reference.parts_of(rows, end)) for end in range(len(rows))})
            self.assertEqual([keeper(kind, end) for end in range(len(rows))], [row[1] for row in rows])
            self.assertTrue(all(sign in (True, False) and isinstance(sign, bool) for sign in signs(kind)))

    def test_facts(self):
        for kind in some_kinds():
            told, kept = signs(kind), parts(kind)
            self.assertEqual(list(kept), list(range(len(told))))
            for end, mine in kept.items():
                self.assertTrue(all(told[part] != told[end] for part in mine))
            self.assertEqual(sorted(part for mine in kept.values() for part in mine), list(range(len(told) - 1)))

    def test_what_is_returned_is_new(self):
        told = parts(TT)
        told[0] = 5
        self.assertEqual(parts(TT), {0: (), 1: (0,)})

    def test_wrong(self):
        no_kinds = [*odd_values(), *TOO_GREAT]
        refused(self, signs, {"kind": TT}, [("kind", BadKind, no_kinds)])
        refused(self, parts, {"kind": TT}, [("kind", BadKind, no_kinds)])
        bad = [value for value in odd_values() if value not in (0, 1, 2, 3) or isinstance(value, bool)]
        refused(self, keeper, {"kind": to(TT, TT), "end": 3}, [("kind", BadKind, no_kinds), ("end", BadEnd, [4, -1, True, *bad])])
        refused(self, keeper, {"kind": SIXTY, "end": 59}, [("end", BadEnd, [60, -60, -1])])
        self.assertRaises(BadEnd, keeper, T, False)
        self.assertEqual(keeper(texts_to(1), 0), 1)


if __name__ == "__main__":
    unittest.main()
