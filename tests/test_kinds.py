"""Points 7 and 11: kinds."""

import unittest

import reference
from oneuseheads.errors import BadKind, BadKinds
from oneuseheads.kinds import arguments, ends_in, is_kind, kind_from, order
from samples import HIGH, Numbers, T, TT, TTT, made_kind, nested, odd_values, refused, spoiled, texts_to, to

SIXTY = texts_to(59)
LEFT_SIXTY = nested(59, lambda kind: ("to", kind, T), T)
TOO_GREAT = [texts_to(60), nested(60, lambda kind: ("to", kind, T), T), to(texts_to(29), texts_to(30)), texts_to(250)]


def small_kinds(most):
    rows = {1: [T]}
    for ends in range(2, most + 1):
        rows[ends] = [("to", one, other) for left in range(1, ends) for one in rows[left] for other in rows[ends - left]]
    return [kind for ends in rows for kind in rows[ends]]


class IsKind(unittest.TestCase):
    def test_kinds(self):
        for kind in [T, TT, TTT, HIGH, SIXTY, LEFT_SIXTY, to(texts_to(29), texts_to(29)), *small_kinds(6)]:
            self.assertIs(is_kind(kind), True)
        self.assertIs(is_kind(value=TT), True)

    def test_no_kinds(self):
        for value in [*odd_values(), *TOO_GREAT, ("to", TT, ["to", T, T]), ("text", "text"), "text", ["to", T, T]]:
            self.assertIs(is_kind(value), False)

    def test_wrong_in_one_place(self):
        for kind in [T, TT, TTT, HIGH, to(T, HIGH), SIXTY, LEFT_SIXTY]:
            for value in spoiled(kind):
                self.assertIs(is_kind(value), reference.is_kind(value), value)


class Arguments(unittest.TestCase):
    def test_arguments(self):
        self.assertEqual(arguments(T), ())
        self.assertEqual(arguments(TT), (T,))
        self.assertEqual(arguments(to(TT, T, HIGH, T)), (TT, T, HIGH))
        self.assertEqual(arguments(kind=SIXTY), (T,) * 59)
        self.assertEqual(arguments(LEFT_SIXTY), (LEFT_SIXTY[1],))

    def test_kind_from(self):
        self.assertEqual(kind_from([]), T)
        self.assertEqual(kind_from(()), T)
        self.assertEqual(kind_from([T, TT]), ("to", T, ("to", TT, T)))
        self.assertEqual(kind_from((TT, T)), ("to", TT, ("to", T, T)))
        self.assertEqual(kind_from(arguments=[T] * 59), SIXTY)
        self.assertEqual(kind_from([texts_to(58)]), ("to", texts_to(58), T))

    def test_one_is_the_other_turned_round(self):
        for kind in small_kinds(6):
            self.assertEqual(kind_from(list(arguments(kind))), kind)

    def test_what_is_passed_in_is_left(self):
        kinds = [TT, T]
        kind_from(kinds)
        self.assertEqual(kinds, [TT, T])

    def test_wrong(self):
        for function in (arguments, ends_in, order):
            refused(self, function, {"kind": TT}, [("kind", BadKind, [*odd_values(), *TOO_GREAT])])
        bad = [value for value in odd_values() if value not in ([], (), [("text",)])]
        bad += [[T, ["text"]], T, TT, {T: T}, [TT, None], [texts_to(60)], [T, T, TT, 1], "", [T] * 59 + [1]]
        great = [[T] * 60, (T,) * 60, [texts_to(30), texts_to(29)], [SIXTY], [TT] * 30, [T] * 4000]
        refused(self, kind_from, {"arguments": [T]}, [("arguments", BadKinds, bad), ("arguments", BadKind, great)])


class EndsAndOrder(unittest.TestCase):
    def test_ends_in(self):
        for kind, ends in [(T, 1), (TT, 2), (TTT, 3), (HIGH, 4), (SIXTY, 60), (LEFT_SIXTY, 60), (to(TT, TT, TT), 6)]:
            self.assertEqual(ends_in(kind), ends)
        self.assertEqual(ends_in(kind=T), 1)
        numbers = Numbers(1)
        for ends in range(1, 61):
            self.assertEqual(ends_in(made_kind(numbers, ends)), ends)

    def test_order(self):
        wanted = [(T, 0), (TT, 1), (TTT, 1), (HIGH, 2), (to(T, HIGH), 2), (to(HIGH, T), 3), (to(T, HIGH, TT, T), 3),
                  (SIXTY, 1), (LEFT_SIXTY, 59), (to(T, to(TT, T)), 2), (to(to(T, TT), T), 2)]
        for kind, told in wanted:
            self.assertEqual(order(kind), told)
        self.assertEqual(order(kind=TT), 1)

    def test_order_is_one_more_than_that_of_an_argument(self):
        for kind in small_kinds(7):
            self.assertEqual(order(kind), max([0] + [1 + order(part) for part in arguments(kind)]))


if __name__ == "__main__":
    unittest.main()
