"""Points 67 and 68: texts that are held and edited."""

import unittest

import reference
from oneuseheads.errors import BadNumber, BadProgram, BadText
from oneuseheads.held import Held
from oneuseheads.programs import is_program, letters
from oneuseheads.tables import called, is_table, table, through
from oneuseheads.walks import crossed, run, stretch, walk
from samples import DOUBLED, DROPPING, FORGETTING, Numbers, PROGRAMS, T, THERE_AND_BACK, TT, TURNED, made_text, odd_values, to
from test_boxes import led_round
from test_programs import BAD_PROGRAMS, great_program
from test_walks import BAD_TEXTS, passing_program, programs, texts

ODD_NUMBERS = [True, False, None, "1", "", 1.0, (1,), [1], 10 ** 29, -1, -10 ** 29, {}]


def visited(value, text):
    """The places to which the walk comes."""
    place, found = 0, {0}
    for boundary, _ in walk(value, text)[1]:
        place = boundary + 1 if place <= boundary else boundary
        found.add(place)
    return found


def cuts_by_walk(value, text, at):
    """The stretches of the walk on the two sides of a boundary, with the numbers of letters that were written."""
    crossings = walk(value, text)[1]
    init, steps, last = reference.links_of_program(value)
    k = reference.size(value[1])
    found, index, place, end = [], 0, 0, k
    many, begin, side = 0, 0, "ahead"
    while True:
        links = last if place == 0 else init if place == len(text) + 1 else dict(steps)[text[place - 1]]
        _, word, goal = [link for link in links if link[0] == end][0]
        many += len(word)
        if goal is None:
            found.append((side, begin, many))
            return found
        boundary, crossing_end = crossings[index]
        index += 1
        forward = boundary == place
        place = place + 1 if forward else place - 1
        end = crossing_end + k if forward and place <= len(text) else crossing_end
        if boundary == at:
            found.append((side, begin, many))
            begin, side = many, "behind" if forward else "ahead"


def check(test, held, value, text, few=False):
    """All that a Held tells, against a walk over the text that it should hold."""
    written, _ = walk(value, text)
    told = "".join(letter for letter, _ in written)
    test.assertEqual((held.letters(), held.length(), held.written(), held.size()), (text, len(text), told, len(told)))
    met = visited(value, text)
    test.assertEqual(held.unread(), [place for place in range(1, len(text) + 1) if place not in met])
    spots = range(len(told)) if not few else {0, len(told) // 2, len(told) - 1} if told else []
    for spot in spots:
        test.assertEqual(held.origin(spot), written[spot][1])
        test.assertEqual(held.piece(spot, spot + 1), told[spot])
    places = range(len(text) + 2) if not few else {0, 1, len(text) // 2, len(text) + 1}
    for place in places:
        test.assertEqual(held.spots(place), [spot for spot, (_, wrote) in enumerate(written) if wrote == place])
    boundaries = range(len(text) + 1) if not few else {0, len(text) // 3, len(text)}
    for at in boundaries:
        check_boundary(test, held, value, text, at, few)


def check_boundary(test, held, value, text, at, few):
    _, kind, init, steps, last = value
    ahead, behind = held.ahead(at), held.behind(at)
    front = to(kind, T)
    test.assertIs(is_table(front, ahead), True)
    test.assertIs(is_table(kind, behind), True)
    test.assertEqual(called(front, ahead, behind), ((0, held.written(), None),))
    test.assertEqual(behind, called(to(kind, kind), stretch(value, text[at:]), table(init)))
    links = reference.links_of_program(value)
    wanted = reference.left_links(kind, links[1], links[2], text[:at]) if not few else None
    if wanted is not None:
        test.assertEqual(ahead, tuple((end, "".join(letter for letter, _ in word), goal) for end, word, goal in wanted))
    cuts = held.cuts(at)
    test.assertEqual(len(cuts), len(crossed(value, text, at)) + 1)
    test.assertEqual([side for side, _, _ in cuts], [["ahead", "behind"][which % 2] for which in range(len(cuts))])
    test.assertEqual([begin for _, begin, _ in cuts] + [held.size()], [0] + [end for _, _, end in cuts])
    words = [{"ahead": ahead, "behind": behind}[side] for side, _, _ in cuts]
    for (_, begin, end), links_there in zip(cuts, words, strict=True):
        test.assertIn(held.piece(begin, end), [word for _, word, _ in links_there])
    if not few:
        test.assertEqual(cuts, cuts_by_walk(value, text, at))


def edit(numbers, held, text, signs, most=4):
    """Edits by chance; the text that there should be then."""
    at = numbers.one_of([0, len(text), numbers.below(len(text) + 1)])
    which = numbers.below(4)
    if which == 0 or not text:
        more = made_text(numbers, signs, most)
        test_none(held.put_in(at, more))
        return text[:at] + more + text[at:]
    if which == 1:
        many = numbers.one_of([0, 1, len(text) - at, numbers.below(len(text) - at + 1)]) if numbers.below(3) == 0 else 1
        many = min(many, len(text) - at)
        test_none(held.take_out(at, many))
        return text[:at] + text[at + many:]
    at = min(at, len(text) - 1)
    letter = numbers.one_of(signs)
    test_none(held.exchange(at, letter))
    return text[:at] + letter + text[at + 1:]


def test_none(told):
    assert told is None


test_none.__test__ = False


class Told(unittest.TestCase):
    def test_examples(self):
        held = Held(program=TURNED, text="ab")
        self.assertEqual((held.letters(), held.length(), held.written(), held.size()), ("ab", 2, "ba", 2))
        self.assertEqual((held.piece(begin=0, end=1), held.piece(1, 1), held.piece(0, 2)), ("b", "", "ba"))
        self.assertEqual((held.origin(spot=0), held.origin(1)), (2, 1))
        self.assertEqual([held.spots(place=place) for place in range(4)], [[], [1], [0], []])
        self.assertEqual(held.unread(), [])
        self.assertEqual(held.cuts(at=1), [("ahead", 0, 0), ("behind", 0, 1), ("ahead", 1, 2)])
        self.assertEqual(held.ahead(at=1), ((0, "a", None), (2, "", 1)))
        self.assertEqual(held.behind(at=1), ((1, "b", 0),))
        held.put_in(at=1, more="aab")
        self.assertEqual((held.letters(), held.written()), ("aaabb", "bbaaa"))
        held.take_out(at=0, many=3)
        self.assertEqual((held.letters(), held.written()), ("bb", "bb"))
        held.exchange(at=0, letter="a")
        self.assertEqual((held.letters(), held.written()), ("ab", "ba"))

    def test_unread_places_and_those_without_letters(self):
        held = Held(FORGETTING, "bab")
        self.assertEqual(held.unread(), [3])
        self.assertEqual([held.spots(place) for place in range(5)], [[0], [1], [2], [], []])
        # A b that is read, and writes nothing.
        held = Held(DOUBLED, "ab")
        self.assertEqual(held.unread(), [])
        self.assertEqual(held.spots(2), [])
        self.assertEqual(Held(DROPPING, "qq").unread(), [1, 2])
        self.assertEqual(held.cuts(2), [("ahead", 0, 2), ("behind", 2, 2)])
        self.assertEqual(Held(DROPPING, "qq").cuts(0), [("ahead", 0, 1)])
        self.assertEqual(Held(THERE_AND_BACK, "").cuts(0), [("ahead", 0, 1), ("behind", 1, 2), ("ahead", 2, 3)])

    def test_exchange_at_unread_places(self):
        held = Held(FORGETTING, "babab")
        written = held.written()
        for place in held.unread():
            for letter in "ab":
                held.exchange(place - 1, letter)
                self.assertEqual(held.written(), written)

    def test_all_that_is_told(self):
        for value in programs(40, 6):
            for text in texts(value, 6, 3):
                check(self, Held(value, text), value, text)
        for value in [led_round([2, 3]), passing_program(20, "b"), great_program(30)]:
            check(self, Held(value, "a" * 5), value, "a" * 5)

    def test_changed_lists(self):
        held = Held(FORGETTING, "bab")
        for told in (lambda: held.spots(1), held.unread, lambda: held.cuts(1)):
            one = told()
            one.append("more")
            one.reverse()
            self.assertEqual(told(), one[::-1][:-1])
        check(self, held, FORGETTING, "bab")

    def test_like_itself_alone(self):
        held, other = Held(TURNED, "ab"), Held(TURNED, "ab")
        self.assertEqual(held, held)
        self.assertNotEqual(held, other)
        self.assertNotEqual(held, held.copy())
        for value in odd_values():
            self.assertFalse(held == value)
        self.assertRaises(TypeError, iter, held)
        self.assertIs(is_program(held), False)


class Edited(unittest.TestCase):
    def test_behind_each_edit(self):
        numbers = Numbers(601)
        for value in [*programs(25, 6), led_round([2, 2], True)]:
            text = made_text(numbers, letters(value), 8)
            held = Held(value, text)
            for _ in range(12):
                text = edit(numbers, held, text, letters(value))
                check(self, held, value, text)
                self.same(held, Held(value, text))
                if len(text) > 14:
                    held.take_out(0, 9)
                    text = text[9:]

    def same(self, one, other):
        self.assertEqual((one.letters(), one.written(), one.unread()), (other.letters(), other.written(), other.unread()))
        for at in range(one.length() + 1):
            self.assertEqual((one.ahead(at), one.behind(at), one.cuts(at)), (other.ahead(at), other.behind(at), other.cuts(at)))

    def test_edits_of_nothing(self):
        for text in ("", "abba"):
            held = Held(TURNED, text)
            for at in range(len(text) + 1):
                held.put_in(at, "")
                held.take_out(at, 0)
                check(self, held, TURNED, text)

    def test_all_out_and_in_again(self):
        held = Held(TURNED, "abbab")
        for _ in range(3):
            held.take_out(0, 5)
            check(self, held, TURNED, "")
            held.put_in(0, "ab")
            held.put_in(2, "bab")
            check(self, held, TURNED, "abbab")
        held = Held(DROPPING, "")
        check(self, held, DROPPING, "")
        held.put_in(0, "q" * 9)
        check(self, held, DROPPING, "q" * 9)

    def test_copies(self):
        numbers = Numbers(607)
        for value in PROGRAMS[:3]:
            one = Held(value, "abbaab")
            other = one.copy()
            self.assertIs(type(other), Held)
            self.assertIsNot(one, other)
            first, second = "abbaab", "abbaab"
            check(self, other, value, second)
            for _ in range(20):
                made = other.made()
                first = edit(numbers, one, first, "ab")
                one.written()
                self.assertEqual(other.made(), made)
                second = edit(numbers, other, second, "ab", 2)
                check(self, one, value, first, True)
                check(self, other, value, second, True)
                third = one.copy()
                third.take_out(0, third.length())
                check(self, third, value, "")
            check(self, one, value, first)

    def test_refused(self):
        held = Held(FORGETTING, "bab")
        states = [(held.put_in, (4, "a"), BadNumber), (held.put_in, (-1, "a"), BadNumber), (held.put_in, (0, "c"), BadText),
                  (held.put_in, (4, "c"), BadNumber), (held.take_out, (4, 0), BadNumber), (held.take_out, (0, 4), BadNumber),
                  (held.take_out, (2, 2), BadNumber), (held.take_out, (0, -1), BadNumber), (held.exchange, (3, "a"), BadNumber),
                  (held.exchange, (0, "c"), BadText), (held.exchange, (0, ""), BadText), (held.exchange, (0, "ab"), BadText),
                  (held.piece, (4, 4), BadNumber), (held.piece, (2, 1), BadNumber), (held.piece, (0, 4), BadNumber),
                  (held.origin, (3,), BadNumber), (held.spots, (5,), BadNumber), (held.cuts, (4,), BadNumber),
                  (held.ahead, (4,), BadNumber), (held.behind, (4,), BadNumber)]
        self.assertEqual(held.written(), "zba")
        for method, values, error in states:
            made = held.made()
            with self.assertRaises(ValueError) as found:
                method(*values)
            self.assertIs(type(found.exception), error, (method, values))
            self.assertEqual(held.made(), made)
            check(self, held, FORGETTING, "bab")

    def test_odd_values(self):
        held = Held(TURNED, "ab")
        for value in ODD_NUMBERS:
            for method, values in [(held.put_in, (value, "c")), (held.take_out, (value, -1)), (held.take_out, (0, value)),
                                   (held.exchange, (value, "c")), (held.piece, (value, -1)), (held.piece, (value, 2)), (held.piece, (0, value)),
                                   (held.origin, (value,)), (held.spots, (value,)), (held.cuts, (value,)), (held.ahead, (value,)),
                                   (held.behind, (value,))]:
                with self.assertRaises(ValueError) as found:
                    method(*values)
                self.assertIs(type(found.exception), BadNumber, (method, value))
        self.assertEqual((held.piece(2, 2), held.piece(0, 0), held.piece(0, 2)), ("", "", "ba"))
        for value in [*BAD_TEXTS, "c", "abc"]:
            for method in (held.put_in, held.exchange):
                with self.assertRaises(ValueError) as found:
                    method(0, value)
                self.assertIs(type(found.exception), BadText, (method, value))
        check(self, held, TURNED, "ab")
        self.assertRaises(BadNumber, Held(TURNED, "").exchange, 0, "a")
        self.assertRaises(BadNumber, Held(TURNED, "").origin, 0)

    def test_wrong_when_made(self):
        for value in [*BAD_PROGRAMS, great_program(31)]:
            for text in ("ab", "c", None):
                with self.assertRaises(ValueError) as found:
                    Held(value, text)
                self.assertIs(type(found.exception), BadProgram)
        for text in [*BAD_TEXTS, "q"]:
            with self.assertRaises(ValueError) as found:
                Held(TURNED, text)
            self.assertIs(type(found.exception), BadText)


def allowed(length):
    return 60 * (length + 2).bit_length()


class Long(unittest.TestCase):
    def check_made(self, held, deed, length):
        made = held.made()
        deed()
        self.assertLessEqual(held.made() - made, allowed(length))
        return held.made() - made

    def test_tables_made_by_edits_of_long_texts(self):
        numbers = Numbers(611)
        for value in (TURNED, THERE_AND_BACK, led_round([2, 3], own="b")):
            text = "abb" * 500
            held = Held(value, text)
            self.assertGreaterEqual(held.made(), 1499)
            some = 0
            for turn in range(250):
                come = []
                some = max(some, self.check_made(held, lambda: come.append(edit(numbers, held, text, "ab")), len(text)))
                text = come[0]
                if turn % 25 == 0:
                    check(self, held, value, text, True)
                if len(text) < 800:
                    held.put_in(len(text) // 3, "ab" * 400)
                    text = text[:len(text) // 3] + "ab" * 400 + text[len(text) // 3:]
            self.assertGreater(some, 10)
            self.assertEqual(held.written(), run(value, text))

    def test_all_kinds_of_long_edits(self):
        numbers = Numbers(613)
        text = "aab" * 600
        held = Held(TURNED, text)
        for at in [0, 1, 2, 899, 900, 901, 1799, 1800] + [numbers.below(1801) for _ in range(30)]:
            for deed, more in [(held.put_in, "abba"), (held.put_in, "a"), (held.put_in, "")]:
                self.check_made(held, lambda: deed(at, more), len(text))
                text = text[:at] + more + text[at:]
            for many in (5, 0, 700 if at < 900 else 3):
                many = min(many, len(text) - at)
                self.check_made(held, lambda: held.take_out(at, many), len(text))
                text = text[:at] + text[at + many:]
            if at < len(text):
                self.check_made(held, lambda: held.exchange(at, "b"), len(text))
                text = text[:at] + "b" + text[at + 1:]
            self.assertEqual(held.letters(), text)
            self.assertEqual(held.written(), text[::-1])
            if len(text) < 1800:
                held.put_in(7, "b" * (1800 - len(text)))
                text = text[:7] + "b" * (1800 - len(text)) + text[7:]
        self.check_made(held, lambda: held.take_out(0, held.length()), len(text))
        check(self, held, TURNED, "")

    def test_letter_by_letter(self):
        # However it has come to be, a text is as good to edit as a new one.
        for at_end in (True, False):
            held = Held(TURNED, "")
            text = ""
            for turn in range(1500):
                letter = "ab"[turn % 3 % 2]
                at = len(text) if at_end else 0
                self.check_made(held, lambda: held.put_in(at, letter), len(text))
                text = text + letter if at_end else letter + text
            self.assertEqual(held.written(), text[::-1])
            check(self, held, TURNED, text, True)
            for turn in range(1490):
                at = 0 if at_end else len(text) - 1
                self.check_made(held, lambda: held.take_out(at, 1), len(text))
                text = text[1:] if at_end else text[:-1]
            check(self, held, TURNED, text)

    def test_short_texts(self):
        numbers = Numbers(617)
        text = ""
        held = Held(DOUBLED, text)
        for _ in range(300):
            come = []
            self.check_made(held, lambda: come.append(edit(numbers, held, text, "ab")), len(text))
            text = come[0]
            check(self, held, DOUBLED, text, True)

    def test_great_texts(self):
        text = "ab" * 20000
        held = Held(DOUBLED, text)
        self.check_made(held, lambda: held.put_in(777, "aaa"), len(text))
        self.check_made(held, lambda: held.take_out(3, 30000), len(text))
        text = text[:777] + "aaa" + text[777:]
        text = text[:3] + text[30003:]
        self.assertEqual(held.written(), run(DOUBLED, text))
        self.assertEqual(held.made() > 0, True)
        self.assertEqual(through(TT, table(TURNED[3][0][1]), table(TURNED[3][1][1])), stretch(TURNED, "ab"))


if __name__ == "__main__":
    unittest.main()
