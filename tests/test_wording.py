"""Points 61 and 62: wordings of terms and programs, read, and how they can go on."""

import unittest
from unittest import mock

import reference
import wordings
from oneuseheads import reader, wanted
from oneuseheads.errors import BadKind, BadNames, BadProgram, BadSigns, BadTerm, TooMany
from oneuseheads.programs import is_program
from oneuseheads.terms import is_term, kind_of
from oneuseheads.wording import completed, offers, program_worded, read, read_program, worded
from samples import END, IDENTITY, Numbers, PROGRAMS, T, TT, TTT, TURNED, call, copied, fun, made_kind, made_program, made_term, n, nested
from samples import odd_values, put, refused, term_of_nodes, term_of_row, texts_to, to
from test_kinds import TOO_GREAT
from test_programs import BAD_PROGRAMS, great_program, identities, program

ALL = wordings.ALL
BAD_NAMES = [*[value for value in odd_values() if value not in ([], ())], {"x": T}, "x", [["x", T]], [("x", T, T)], [("x",)], [("x", T), ("x", TT)],
             [("x", ["text"])], [("end", T)], [("x", T), 3], [(1, T)], [("x", texts_to(60))], [("abcdefghi", T)], (("x", T), ["y", T]), ("x", T), [None]]
NO_STRINGS = [value for value in odd_values() if not isinstance(value, str)] + [b"end", None, ["end"], ("end",), {"end": True}]
SOME_NAMES = [("x", T), ("f", TT), ("g", to(TT, T)), ("ab", T), ("abc", TTT), ("enda", T), ("abcdefgh", TT)]


def signs_at(test, at, function, *told):
    with test.assertRaises(BadSigns) as found:
        function(*told)
    test.assertEqual(found.exception.at, at, told)


def drawn_wording(numbers, kinds):
    """A wording by chance for some names and a kind, now and then with something wrong in it."""
    names = [(name, numbers.one_of(kinds[:9])) for name in ["x", "y", "f", "ab", "abc"][:numbers.below(6)]]
    kind = numbers.one_of([None, None, numbers.one_of(kinds[:12])])
    while True:
        words = wordings.term_words(made_term(numbers, kind or numbers.one_of(kinds[:9]), names, 2 + numbers.below(4)))
        text = wordings.blanked(numbers, words) if numbers.below(2) else wordings.plain(words)
        if len(text) < 130:
            break
    return (changed(numbers, text) if numbers.below(4) else text), names, kind


def changed(numbers, text):
    for _ in range(1 + numbers.below(2)):
        at = numbers.below(len(text) + 1)
        more = numbers.one_of([*"abxyzfe()  \n", "fun ", "end", "(call ", "(put a ", "text", "(to ", "x ", " y", "(fun x text ", "\t"])
        which = numbers.below(5)
        if which == 0:
            text = text[:at] + more + text[at:]
        elif which == 1:
            text = text[:at] + text[at + 1:]
        elif which == 2:
            text = text[:at] + more + text[at + 1:]
        elif which == 3:
            text = text[:at]
        else:
            words = text.split(" ")
            words[numbers.below(len(words))] = numbers.one_of(words)
            text = " ".join(words)
    return text


class Worded(unittest.TestCase):
    def test_examples(self):
        self.assertEqual(worded(END), "end")
        self.assertEqual(worded(term=n("x")), "x")
        self.assertEqual(worded(fun("f", TT, fun("x", T, put("a", call(n("f"), n("x")))))), "(fun f (to text text) (fun x text (put a (call f x))))")
        self.assertEqual(worded(fun("g", to(TT, T), END)), "(fun g (to (to text text) text) end)")

    def test_there_and_back(self):
        numbers = Numbers(881)
        for _ in range(300):
            kind = made_kind(numbers, 1 + numbers.below(9))
            names = [("x", T), ("f", TT), ("g", to(TT, T))]
            term = made_term(numbers, kind, names, 6)
            if not is_term(term):
                continue
            words = wordings.term_words(term)
            self.assertEqual(worded(term), wordings.plain(words))
            has = kind_of(term, names)
            for wanted_kind in (None, has):
                self.assertEqual(read(worded(term), names, wanted_kind), term)
                self.assertEqual(read(wordings.blanked(numbers, words), names, wanted_kind), term)
        for term in [term_of_nodes(400), term_of_row(60), IDENTITY, nested(59, lambda inner: fun("x", T, inner), END), fun("x", texts_to(58), END)]:
            self.assertEqual(read(worded(term)), term)

    def test_wrong(self):
        refused(self, worded, {"term": END}, [("term", BadTerm, [*odd_values(), term_of_row(61), term_of_nodes(401), call(n("x"), n("x"))])])
        refused(self, program_worded, {"program": TURNED}, [("program", BadProgram, [*BAD_PROGRAMS, great_program(31)])])


class Read(unittest.TestCase):
    def test_examples(self):
        signs_at(self, 18, read, "(fun x text (call x end))")
        signs_at(self, 36, read, "(fun f (to text text) (call f (call f end)))")
        signs_at(self, 4, read, "end end")
        self.assertEqual(read("end"), END)
        self.assertEqual(read(wording="x", names=[("x", TT)], kind=TT), n("x"))
        self.assertEqual(read("(call f x)", (("f", TT), ("x", T))), call(n("f"), n("x")))
        self.assertEqual(read("(fun x(to text text)(call x(put a end)))"), fun("x", TT, call(n("x"), put("a", END))))

    def test_blanks(self):
        term = fun("x", TT, call(n("x"), put("a", END)))
        for text in ["(fun x (to text text) (call x (put a end)))", " \n(  fun\nx ( to\ntext  text\n)( call x( put\na\nend ) ) )\n ", "\n(fun x(to text text)(call x(put a end)))"]:
            self.assertEqual(read(text), term)
        # Blanks and line feeds at each place, alone and together.
        words = wordings.term_words(term)
        for at in range(len(words) + 1):
            for blanks in (" ", "\n", " \n ", "   "):
                self.assertEqual(read(" ".join(words[:at]) + blanks + " ".join(words[at:])), term)
        self.assertEqual(read(" " * 100000 + "end" + "\n" * 100000), END)
        for sign in "\t\r\x0b\x0c\u00a0\u2003;,.-_1A\u00e4[]{}'\"\x00":
            text = worded(term)
            for at in range(len(text) + 1):
                signs_at(self, at, read, text[:at] + sign + text[at:])

    def test_cut_off_at_each_place(self):
        for term in [fun("x", TT, call(n("x"), put("a", END))), fun("f", to(TT, T), fun("xyz", T, call(n("f"), fun("y", T, n("xyz"))))), call(IDENTITY, END)]:
            text = worded(term)
            for at in range(len(text)):
                signs_at(self, at, read, text[:at])
                self.assertTrue(completed(text[:at]).startswith(text[:at]))
                self.assertIn(text[at], offers(text[:at]))
            self.assertEqual(offers(text), ["\n", " "])

    def test_names(self):
        names = [("x", T), ("xy", T), ("xyz", TT), ("f", TT), ("enda", T)]
        for text, at in [("xyw", 2), ("xyzw", 3), ("y", 0), ("(call xy", 8), ("(call xy ", 8), ("(call x ", 7), ("(call xyz xyz", 12), ("(call xyz x)", None),
                         ("(call xyz (call f xyz))", 20), ("(call xyz (call xyz x))", 16), ("enda", None), ("endab", 4), ("endb", 3), ("en", 2),
                         ("(call (fun x (to text text) x) f)", None), ("(call (fun x text x) x)", None), ("(call (fun q text x) x)", 22), ("(call (fun q text xy) x)", None), ("(call (fun q text xy) xy)", 23), ("(fun x text x)", None),
                         ("(fun x text (fun x text x))", None), ("(fun x text (call (fun x text x) x))", None), ("(fun x text (call (fun y text x) x))", 34), ("(fun q text (call (fun y text q) q))", 33),
                         ("(fun abcdefgh text abcdefgh)", None), ("(fun abcdefghi text", 13), ("(fun tex", 8), ("(fun text ", 9), ("(fun text text", 9),
                         ("(fun texta text texta)", None), ("(fun to text end)", 7), ("(fun(x text end)", 4), ("(fun end text end)", 8), ("(fun name text end)", 9),
                         ("(fun call text end)", 9), ("(fun putt text end)", None), ("(fun put text end)", 8), ("(fun fun text end)", 8), ("(fun x) text end", 6),
                         ("(call f end", 11), ("(call f end end)", 12), ("(call f (call xyz x)) ", None), ("x x", 2), ("(call f x) x", 11), (")", 0), ("()", 1),
                         ("((fun x text x))", 1), ("(x)", 1), ("(end)", 1), ("name", 0), ("(name x)", 1)]:
            if at is None:
                self.assertIs(is_term(read(text, names)), True, text)
                self.assertEqual(read(text, tuple(names)), read(text, names))
            else:
                signs_at(self, at, read, text, names)

    def test_kinds_told(self):
        for text, at in [("(fun x text", 11), ("(fun x (to text", 15), ("(fun x (text", 9), ("(fun x (end", 8), ("(fun x (to text text text", 21), ("(fun x (to text text) end", 25), ("(fun x to", 8), ("(fun x q", 7),
                         ("(fun x texts", 11), ("(fun x text end end", 16), ("(fun x (to text text)) end", 21), ("(fun x x end", 7), ("(fun x (to to", 12), ("(fun x (to end", 11),
                         ("(fun x end", 7), ("(fun x (totext text) end)", 10), ("(fun x (to(to text text)text) end)", None), ("(fun x (to text)", 15)]:
            if at is None:
                self.assertIs(is_term(read(text)), True)
            else:
                signs_at(self, at, read, text)
        # For a kind that is wanted, what is told must be just its parts.
        for text, kind, at in [("end", T, None), ("end", TT, 0), ("(put", TT, 1), ("(fun x text x)", TT, None), ("(fun x text x)", T, 1), ("(fun x (to", TT, 7), ("x", T, 0),
                               ("(fun f text", to(TT, T), 7), ("(fun f (to text text) (call f end))", to(TT, T), None), ("(fun f (to text text) f)", to(TT, TT), None),
                               ("(fun f (to text text) f)", to(TT, T), 22), ("(fun x text (fun y text y))", TTT, None), ("(fun x text (fun y text y))", TT, 13),
                               ("(call (fun x (to text text) x) (fun y text y))", TT, None), ("(call (fun x text x) end)", TT, 18)]:
            if at is None:
                self.assertIs(is_term(read(text, (), kind)), True)
            else:
                signs_at(self, at, read, text, (), kind)

    def test_puts_and_calls(self):
        for text, at in [("(put ab end)", 6), ("(put A end)", 5), ("(put a", 6), ("(put a(put b end))", None), ("(put aend)", 6), ("(put (", 5), ("(put a end end)", 11),
                         ("(fun x text (put a x))", None), ("(call (put", 7), ("(call (p", 7), ("(call end", 6), ("(call e", 6), ("(call (fun x text (call x", 24),
                         ("(call (call (fun x text (p", 25), ("(call (call (fun x text (fun y text x)) end) end)", None), ("(call (call (fun x text e", 24),
                         ("(call (fun x (to text text) end) (put", 34), ("(call (fun x (to text text) end) e", 33), ("(puta end)", 4), ("(calll", 5), ("(func", 4)]:
            if at is None:
                self.assertIs(is_term(read(text)), True, text)
            else:
                signs_at(self, at, read, text)

    def test_sixty_ends(self):
        # So many calls that no kind is left for what is called.
        for kind, least in [(None, 1), (T, 1), (TT, 2), (texts_to(29), 30), (texts_to(57), 58), (texts_to(58), 59), (texts_to(59), 60)]:
            calls = "(call " * (60 - least)
            signs_at(self, len(calls), read, calls, (), kind)
            signs_at(self, len(calls) + 1, read, calls + "(call ", (), kind)
            self.assertEqual(offers(calls + "(", (), kind), sorted(["\n", " ", "f"] + (["p"] if calls == "" and least == 1 else [])))
            if least < 60:
                # Then what is called can bind texts alone.
                signs_at(self, len(calls) + 7, read, calls + "(fun x (to", (), kind)
                self.assertEqual(completed(calls + "(fun x t", (), kind)[:len(calls) + 11], calls + "(fun x text")
            whole = completed(calls, (), kind)
            self.assertTrue(whole.startswith(calls))
            signs_at(self, len(whole) + 1, read, whole + " )", (), kind)
        # One call less leaves one end.
        calls = "(call " * 58
        self.assertIs(completed(calls + "(fun x (to text text)").startswith(calls), True)
        signs_at(self, len(calls) + 16, read, calls + "(fun x (to text (to")
        signs_at(self, len(calls) + 11, read, calls + "(fun x (to (to text text) text)")

    def test_sixty_ends_bound(self):
        funs = "(fun x text " * 59
        signs_at(self, len(funs) + 1, read, funs + "(fun x")
        self.assertIs(is_term(read(funs + "end" + ")" * 59)), True)
        self.assertEqual(offers(funs + "("), ["\n", " ", "c", "p"])
        # Names of a kind that would have too many ends then.
        signs_at(self, len(funs), read, funs + "f", [("f", TT)])
        self.assertEqual(offers(funs, [("f", TT), ("y", T)]), ["\n", " ", "(", "e", "x", "y"])
        for ends in (30, 58, 59):
            kind = made_kind(Numbers(882 + ends), ends)
            self.assertEqual(read("(fun x " + wordings.plain(wordings.kind_words(kind)) + " end)"), fun("x", kind, END))
        # A kind of 60 ends cannot be bound: the bracket that leads there is wrong.
        wide = wordings.plain(wordings.kind_words(texts_to(59)))
        signs_at(self, 7 + wide.rindex("("), read, "(fun x " + wide + " end)")
        deep = "(to " * 59
        signs_at(self, 7 + 4 * 58, read, "(fun x " + deep)
        # Of 31 ends only the half of what would be doubled.
        kind = made_kind(Numbers(883), 30)
        told = wordings.plain(wordings.kind_words(kind))
        self.assertEqual(read("(fun x " + told + " x)"), fun("x", kind, n("x")))
        great = wordings.plain(wordings.kind_words(texts_to(30)))
        signs_at(self, len("(fun x " + great + " "), read, "(fun x " + great + " x)")
        self.assertEqual(read("(fun x " + great + " end)"), fun("x", texts_to(30), END))
        # What is called with 59 arguments, and its name.
        names = [("f", texts_to(59)), ("g", nested(59, lambda inner: ("to", inner, T), T))]
        text = "(call " * 59 + "f" + " end)" * 59
        signs_at(self, 58 * 6, read, text[6:], names[1:], T)
        with self.assertRaises(TooMany) as found:
            read("(put a " + text + ")", names)
        self.assertEqual(found.exception.most, 60)
        self.assertIs(is_term(read(text, names)), True)
        self.assertIs(is_term(read("g", names)), True)
        signs_at(self, 12, read, "(fun x text g)", names)

    def test_limits(self):
        for term, most in [(term_of_nodes(400), None), (term_of_nodes(401), 400), (term_of_row(60), None), (term_of_row(61), 60), (term_of_row(401), 400),
                           (call(IDENTITY, term_of_row(59)), None), (call(IDENTITY, term_of_row(60)), 60), (call(fun("x", T, term_of_nodes(300)), term_of_nodes(200)), 400)]:
            text = wordings.plain(wordings.term_words(term))
            if most is None:
                self.assertEqual(read(text), term)
                continue
            with self.assertRaises(TooMany) as found:
                read(text)
            self.assertEqual(found.exception.most, most)
            # Behind what is wrong in it.
            signs_at(self, len(text), read, text + ")")
            signs_at(self, len(text) - 1, read, text[:-1])
            signs_at(self, 1, read, "(put a " + text + ")", (), TT)
        # Any number of nodes and of brackets within each other.
        for many in (1000, 20000):
            text = "(put a " * many + "end" + ")" * many
            with self.assertRaises(TooMany) as found:
                read(text)
            self.assertEqual(found.exception.most, 400)
            signs_at(self, len(text) - 1, read, text[:-1])
            self.assertEqual(completed(text[:-1]), text)
            self.assertEqual(completed("(put a " * many), "(put a " * many + text[7 * many:])
            self.assertEqual(offers(text[:-1]), ["\n", " ", ")"])
            signs_at(self, 7 * many + 3, read, text[:7 * many + 3] + "x" + text[7 * many + 3:])
        deep = "(call (fun x text x) " * 5000
        self.assertEqual(completed(deep), deep + "end" + ")" * 5000)
        inner = "(call (fun f (to text text) end) (fun x text " * 3000
        self.assertEqual(completed(inner), inner + "end" + "))" * 3000)

    def test_wrong(self):
        many = [("x" + reference.name_of_end(at), T) for at in range(600)]
        self.assertEqual(read("xwb", many), n("xwb"))
        for function in (read, completed, offers):
            refused(self, function, {"wording": "end", "names": [("x", T)], "kind": T},
                    [("wording", (BadSigns, {"at": None}), NO_STRINGS), ("names", BadNames, BAD_NAMES), ("kind", BadKind, [*[value for value in odd_values() if value is not None], *TOO_GREAT]),
                     ("wording", (BadSigns, {"at": 0}), ["yes", "z"])])
            self.assertRaises(BadNames, function, "end", [("x", T), ("x", TT)])
            self.assertRaises(BadNames, function, "no", "x")
        names = [("x", T)]
        held = copied(names, {})
        read("x", names)
        self.assertEqual(names, held)
        self.assertEqual(read("x", names), n("x"))


class AllWordings(unittest.TestCase):
    """Against going through all kinds, with fewer ends than there may be."""

    def check(self, seed, most, many):
        kinds = wordings.kinds_up_to(most)
        numbers = Numbers(seed)
        seen = {}
        with mock.patch.object(wanted, "MOST_ENDS", most):
            for _ in range(many):
                text, names, kind = drawn_wording(numbers, kinds)
                if wordings.is_right(text, names, kind, kinds):
                    self.assertEqual(wordings.split(wordings.plain(wordings.term_words(read(text, names, kind)))), wordings.split(text.strip()))
                else:
                    signs_at(self, wordings.longest(text, names, kind, kinds), read, text, names, kind)
                begin = text[:numbers.below(len(text) + 1)]
                self.check_begin(begin, names, kind, kinds)
                seen[wordings.is_beginning(begin, names, kind, kinds)] = True
        self.assertEqual(len(seen), 2)

    def check_begin(self, begin, names, kind, kinds):
        if not wordings.is_beginning(begin, names, kind, kinds):
            at = wordings.longest(begin, names, kind, kinds)
            signs_at(self, at, completed, begin, names, kind)
            signs_at(self, at, offers, begin, names, kind)
            return
        whole = completed(begin, names, kind)
        self.assertTrue(whole.startswith(begin))
        self.assertTrue(wordings.is_right(whole, names, kind, kinds), (begin, whole))
        self.assertEqual(offers(begin, names, kind), [sign for sign in "\n ()" + ALL if wordings.is_beginning(begin + sign, names, kind, kinds)])

    def test_two_ends(self):
        self.check(884, 2, 500)

    def test_three_ends(self):
        self.check(885, 3, 500)

    def test_four_ends(self):
        self.check(886, 4, 400)

    def test_six_ends(self):
        self.check(887, 6, 300)

    def test_all_beginnings(self):
        # Sign by sign, whatever is offered, for a few signs.
        kinds = wordings.kinds_up_to(3)
        with mock.patch.object(wanted, "MOST_ENDS", 3):
            for names, kind, most in [((), None, 7), ([("f", TT), ("fu", T)], T, 7), ([("f", TT)], TT, 7)]:
                pending = [""]
                for begin in pending:
                    self.check_begin(begin, names, kind, kinds)
                    if len(begin) < most:
                        pending += [begin + sign for sign in offers(begin, names, kind) if sign in " ()callendfutx"]
                self.assertGreater(len(pending), 80)

    def test_programs(self):
        for most, seed in ((4, 888), (6, 889)):
            kinds = wordings.kinds_up_to(most)
            numbers = Numbers(seed)
            seen = {True: 0, False: 0}
            with mock.patch.object(wanted, "MOST_ENDS", most), mock.patch.object(reader, "MOST_PROGRAM_ENDS", most // 2):
                for _ in range(400):
                    value = made_program(numbers, most // 2, 1, numbers.one_of(["a", "ab", "z"]))
                    text = wordings.blanked(numbers, wordings.program_words(value))
                    if len(text) > 280:
                        continue
                    text = changed(numbers, text) if numbers.below(4) else text
                    told = None
                    try:
                        told = wordings.read_program(wordings.split(text)[0], kinds)
                    except wordings.Refused:
                        pass
                    seen[told is True] += 1
                    if told is True:
                        self.assertEqual(wordings.program_words(read_program(text)), wordings.split(text)[0])
                    else:
                        signs_at(self, wordings.longest_of_program(text, kinds), read_program, text)
            self.assertGreater(min(seen.values()), 20)


class Completed(unittest.TestCase):
    def test_examples(self):
        for begin in ["", " ", "\n(", "(c", "(call", "(call ", "(call (", "(call (f", "(fun", "(fun ", "(fun to", "(fun tex", "(fun x (t", "(fun x(to(", "(put", "(put q", "e", "en", "end", "end \n"]:
            whole = completed(wording=begin)
            self.assertTrue(whole.startswith(begin))
            self.assertIs(is_term(read(whole)), True, whole)
            for kind in (T, TT, to(TT, T), texts_to(59)):
                try:
                    told = completed(begin, (), kind)
                except BadSigns as wrong:
                    self.assertLess(wrong.at, len(begin) + 1)
                    continue
                self.assertEqual(kind_of(read(told, (), kind)), kind)
        for kind in [made_kind(Numbers(890 + ends), ends) for ends in (1, 2, 5, 12, 30, 31)]:
            self.assertEqual(kind_of(read(completed("", (), kind))), kind)

    def test_drawn_beginnings(self):
        numbers = Numbers(891)
        for _ in range(200):
            kind = made_kind(numbers, 1 + numbers.below(8))
            words = wordings.term_words(made_term(numbers, kind, SOME_NAMES, 5))
            text = wordings.blanked(numbers, words)
            begin = text[:numbers.below(len(text) + 1)]
            for wanted_kind in (kind, None):
                whole = completed(begin, SOME_NAMES, wanted_kind)
                self.assertTrue(whole.startswith(begin))
                term = read(whole, SOME_NAMES, wanted_kind)
                self.assertIn(kind_of(term, SOME_NAMES), [wanted_kind] if wanted_kind else [kind_of(term, SOME_NAMES)])
                self.assertIsNotNone(kind_of(term, SOME_NAMES))
                for sign in offers(begin, SOME_NAMES, wanted_kind):
                    self.assertTrue(completed(begin + sign, SOME_NAMES, wanted_kind).startswith(begin + sign))
                for sign in [sign for sign in "\n ()" + ALL if sign not in offers(begin, SOME_NAMES, wanted_kind)]:
                    signs_at(self, len(begin), completed, begin + sign, SOME_NAMES, wanted_kind)

    def test_offers(self):
        self.assertEqual(offers(""), ["\n", " ", "(", "e"])
        self.assertEqual(offers(wording="", names=[("x", TT), ("fg", T)], kind=T), ["\n", " ", "(", "e", "f"])
        self.assertEqual(offers("", [("x", TT), ("fg", T)], TT), ["\n", " ", "(", "x"])
        self.assertEqual(offers("e", [("ea", T), ("eb", TT), ("e", T)]), ["\n", " ", "a", "b", "n"])
        self.assertEqual(offers("(fun abcdefg"), ["\n", " ", "(", *ALL])
        self.assertEqual(offers("(fun abcdefgh"), ["\n", " ", "("])
        self.assertEqual(offers("(fun to"), list(ALL))
        self.assertEqual(offers("(fun x text"), ["\n", " ", "("])
        self.assertEqual(offers("(put"), ["\n", " "])
        self.assertEqual(offers("(put "), ["\n", " ", *ALL])
        self.assertEqual(offers("(put a"), ["\n", " ", "("])
        self.assertEqual(offers("end"), ["\n", " "])
        self.assertEqual(offers("end\n\n "), ["\n", " "])
        self.assertEqual(offers("(call x", [("x", TT)]), ["\n", " ", "("])
        self.assertEqual(offers("(call x ", [("x", TT)]), ["\n", " ", "(", "e"])
        told = offers("")
        told.append("x")
        self.assertEqual(offers(""), ["\n", " ", "(", "e"])


class Programs(unittest.TestCase):
    def test_there_and_back(self):
        numbers = Numbers(892)
        values = [*PROGRAMS, program(), program(steps=identities("abcz")), program(steps=identities("z")), great_program(30)]
        values += [value for value in [made_program(numbers, 6) for _ in range(60)] if is_program(value)]
        for value in values:
            self.assertEqual(program_worded(value), wordings.plain(wordings.program_words(value)))
            self.assertEqual(read_program(program_worded(value)), value)
            self.assertEqual(read_program(wordings.blanked(numbers, wordings.program_words(value))), value)
        self.assertEqual(program_worded(program=program()), "(program text (fun x text x) end (a (fun x text x)))")
        self.assertEqual(read_program(wording="(program text (fun x text x) end (a (fun x text x)))"), program())

    def test_cut_off_at_each_place(self):
        for value in PROGRAMS:
            text = program_worded(value)
            for at in range(len(text)):
                signs_at(self, at, read_program, text[:at])
            for sign in "\t;1A":
                for at in range(0, len(text) + 1, 3):
                    signs_at(self, at, read_program, text[:at] + sign + text[at:])
            signs_at(self, len(text) + 1, read_program, text + " )")
            signs_at(self, len(text), read_program, text + "(")

    def test_what_is_wrong(self):
        step = "(fun x text x)"
        head = "(program text (fun x text x) end "
        for text, at in [("", 0), ("end", 0), ("(fun", 1), ("(prog ", 5), ("(programs", 8), ("(program(to text text)", 22), ("(program text end", 14), ("(program text (fun x (to", 21),
                         ("(program (to text text) (fun x text", 31), ("(program text (fun x text x) (fun", 30), (head + ")", len(head)), (head + "(ab", len(head) + 2),
                         (head + "(A", len(head) + 1), (head + "(a end", len(head) + 3), (head + "(a " + step + ")(a", len(head) + 19), (head + "(b " + step + ")(a", len(head) + 19),
                         (head + "(z " + step + ")(", len(head) + 18), (head + "(z " + step + "))", None), (head + "(a " + step + step, len(head) + 17),
                         (head + "".join(f"({letter} {step})" for letter in "abcd") + ")", None),
                         (head + "".join(f"({letter} {step})" for letter in "abcd") + "(", len(head) + 4 * 18), (head + "(a (fun x (to", len(head) + 10),
                         (head + "a", len(head)), (head + "(a " + step + ") x", len(head) + 19)]:
            if at is None:
                self.assertIs(is_program(read_program(text)), True)
            else:
                signs_at(self, at, read_program, text)

    def test_thirty_ends(self):
        self.assertEqual(read_program(program_worded(great_program(30))), great_program(30))
        text = wordings.plain(wordings.program_words(great_program(31)))
        kind = wordings.plain(wordings.kind_words(texts_to(30)))
        signs_at(self, 9 + kind.rindex("("), read_program, text)
        signs_at(self, 9 + 4 * 29, read_program, "(program " + "(to " * 40)

    def test_too_many(self):
        nodes, row = term_of_nodes(401), nested(60, lambda inner: put("a", inner), END)
        both = term_of_row(401)
        small = program()
        for init, last, step, most in [(nodes, row, IDENTITY, 60), (row, nodes, IDENTITY, 400), (nodes, END, row, 400), (row, END, nodes, 60), (END, row, nodes, 60),
                                       (END, END, row, 60), (END, END, nodes, 400), (END, END, both, 400), (row, END, IDENTITY, 60), (END, nodes, row, 400)]:
            told = [fun("x", T, term) if term in (END, row, nodes, both) else term for term in (last, step)]
            value = (small[0], T, init, (("a", told[1]),), told[0])
            text = wordings.plain(wordings.program_words(value))
            with self.assertRaises(TooMany) as found:
                read_program(text)
            self.assertEqual(found.exception.most, most)
            signs_at(self, len(text) - 1, read_program, text[:-1])
        two = (small[0], T, END, (("a", fun("x", T, row)), ("b", fun("x", T, nodes))), IDENTITY)
        with self.assertRaises(TooMany) as found:
            read_program(wordings.plain(wordings.program_words(two)))
        self.assertEqual(found.exception.most, 60)

    def test_wrong(self):
        refused(self, read_program, {"wording": program_worded(TURNED)}, [("wording", (BadSigns, {"at": None}), NO_STRINGS), ("wording", (BadSigns, {"at": 0}), ["end", "x", ")"])])


if __name__ == "__main__":
    unittest.main()
