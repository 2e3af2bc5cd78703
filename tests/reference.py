"""What the document tells, written a second time, as plainly as it goes and without the package."""

from fractions import Fraction
from itertools import count

KEPT = ["call", "end", "fun", "name", "put", "text", "to"]
LETTERS = "abcdefghijklmnopqrstuvwxyz"
T = ("text",)


def size(kind):
    return 1 if kind == T else size(kind[1]) + size(kind[2])


def has_form_of_kind(value, deep=0):
    if type(value) is not tuple or deep > 70:
        return False
    if len(value) == 1:
        return type(value[0]) is str and value[0] == "text"
    return (len(value) == 3 and type(value[0]) is str and value[0] == "to"
            and has_form_of_kind(value[1], deep + 1) and has_form_of_kind(value[2], deep + 1))


def is_kind(value):
    return has_form_of_kind(value) and size(value) <= 60


def is_name(value):
    return (type(value) is str and 1 <= len(value) <= 8 and all(sign in LETTERS for sign in value)
            and value not in KEPT)


def inside(term):
    return {"name": [], "end": [], "put": [2], "fun": [3], "call": [1, 2]}[term[0]]


def has_form_of_term(value, deep=1):
    if type(value) is not tuple or not value or type(value[0]) is not str or deep > 60:
        return False
    if value[0] == "end":
        return len(value) == 1
    if value[0] == "name":
        return len(value) == 2 and is_name(value[1])
    if value[0] == "put":
        return (len(value) == 3 and type(value[1]) is str and len(value[1]) == 1 and value[1] in LETTERS
                and has_form_of_term(value[2], deep + 1))
    if value[0] == "fun":
        return (len(value) == 4 and is_name(value[1]) and is_kind(value[2])
                and has_form_of_term(value[3], deep + 1))
    return (value[0] == "call" and len(value) == 3 and has_form_of_term(value[1], deep + 1)
            and has_form_of_term(value[2], deep + 1))


def nodes(term):
    return 1 + sum(nodes(term[at]) for at in inside(term))


def row(term):
    return 1 + max([0] + [row(term[at]) for at in inside(term)])


def free_places(term):
    """The paths of all free names, in pairs with the names."""
    if term[0] == "name":
        return [(term[1], ())]
    found = [(name, (at,) + path) for at in inside(term) for name, path in free_places(term[at])]
    if term[0] == "fun":
        found = [(name, path) for name, path in found if name != term[1]]
    return found


def all_paths(term):
    return [()] + [(at,) + path for at in inside(term) for path in all_paths(term[at])]


def part(term, path):
    for at in path:
        term = term[at]
    return term


def uses_once(term):
    free = [name for name, _ in free_places(term)]
    if len(free) != len(set(free)):
        return False
    for path in all_paths(term):
        fun = part(term, path)
        if fun[0] == "fun" and [name for name, _ in free_places(fun[3])].count(fun[1]) > 1:
            return False
    return True


def is_term(value):
    return has_form_of_term(value) and nodes(value) <= 400 and uses_once(value)


def kind_of(term, names):
    """names is a dict; None if the term has no kind."""
    if term[0] == "name":
        return names.get(term[1])
    if term[0] == "end":
        return T
    if term[0] == "put":
        return T if kind_of(term[2], names) == T else None
    if term[0] == "fun":
        inner = dict(names)
        inner[term[1]] = term[2]
        result = kind_of(term[3], inner)
        if result is None or size(term[2]) + size(result) > 60:
            return None
        return ("to", term[2], result)
    one, other = kind_of(term[1], names), kind_of(term[2], names)
    if one is None or other is None or one == T or one[1] != other:
        return None
    return one[2]


def is_closed(value):
    return is_term(value) and kind_of(value, {}) is not None


def exchanged(term, path, come):
    if not path:
        return come
    return term[:path[0]] + (exchanged(term[path[0]], path[1:], come),) + term[path[0] + 1:]


def without_names(term, bound=()):
    """The term with each bound name told by how many funs stand between it and its own."""
    if term[0] == "name":
        return ("bound", bound.index(term[1])) if term[1] in bound else term
    if term[0] == "fun":
        return ("fun", term[2], without_names(term[3], (term[1],) + bound))
    return tuple(without_names(item, bound) if at in inside(term) else item for at, item in enumerate(term))


def row_of_names():
    for length in count(1):
        for number in range(26 ** length):
            yield "".join(LETTERS[number // 26 ** at % 26] for at in reversed(range(length)))


def names_in(term):
    own = [term[1]] if term[0] in ("name", "fun") else []
    return own + [name for at in inside(term) for name in names_in(term[at])]


def renamed(term, path, name):
    fun = part(term, path)
    body = fun[3]
    for free, place in free_places(body):
        if free == fun[1]:
            body = exchanged(body, place, ("name", name))
    return exchanged(term, path, ("fun", name, fun[2], body))


def doable(term):
    return [path for path in all_paths(term) if part(term, path)[0] == "call" and part(term, path)[1][0] == "fun"]


def drops_at(term, path):
    fun = part(term, path)[1]
    return fun[1] not in [name for name, _ in free_places(fun[3])]


def done(term, path):
    fun = part(term, path)[1]
    handed = part(term, path)[2]
    places = [place for name, place in free_places(fun[3]) if name == fun[1]]
    if not places:
        return exchanged(term, path, fun[3])
    free = [name for name, _ in free_places(handed)]
    for deep in range(len(places[0])):
        at = path + (1, 3) + places[0][:deep]
        if part(term, at)[0] == "fun" and part(term, at)[1] in free:
            standing = names_in(term)
            spare = next(name for name in row_of_names() if name not in KEPT and name not in standing)
            term = renamed(term, at, spare)
    return exchanged(term, path, exchanged(part(term, path)[1][3], places[0], handed))


def normal(term):
    while doable(term):
        term = done(term, doable(term)[0])
    return term


def most_path(term, base=()):
    """The path of the call that the document tells to be done in most."""
    first = [path for path in doable(term) if path[:len(base)] == base][0]
    handed = first + (2,)
    if not drops_at(term, first) or not [path for path in doable(term) if path[:len(handed)] == handed]:
        return first
    return most_path(term, handed)


def most_order(term):
    order = []
    while doable(term):
        order.append(most_path(term))
        term = done(term, order[-1])
    return order


def all_orders(term):
    """All orders that lead to a normal term: triples of the paths, whether one drops, and what comes."""
    can = doable(term)
    if not can:
        return [([], False, term)]
    return [([path] + order, drops_at(term, path) or drop, come)
            for path in can for order, drop, come in all_orders(done(term, path))]


def terms_of_nodes(many, names, letters="a"):
    """All terms, their names used once at most, with so many nodes, these names alone, and all kinds text."""
    rows = {}
    for now in range(1, many + 1):
        found = [("end",)] + [("name", name) for name in names] if now == 1 else []
        for inner in rows.get(now - 1, []):
            found += [("put", letter, inner) for letter in letters]
            found += [("fun", name, T, inner) for name in names]
        for left in range(1, now - 1):
            found += [("call", one, other) for one in rows[left] for other in rows[now - 1 - left]]
        rows[now] = [term for term in found if uses_once(term)]
    return rows[many]


def ends_of(kind):
    """The ends from left to right as triples: whether asked, the end that keeps it, the kind whose result it is."""
    rows = []

    def lay(part_kind, asked):
        kept = []
        whole = part_kind
        while part_kind != T:
            lay(part_kind[1], not asked)
            kept.append(len(rows) - 1)
            part_kind = part_kind[2]
        rows.append([asked, None, whole])
        for end in kept:
            rows[end][1] = len(rows) - 1

    lay(kind, True)
    return [tuple(told) for told in rows]


def parts_of(rows, end):
    return [other for other in range(len(rows)) if rows[other][1] == end]


def table_by_normal_form(term, kind):
    """The table of a closed term, by its normal form written as funs of all arguments."""
    rows = ends_of(kind)
    links = []

    def read(end, inner, names):
        names = dict(names)
        for part_end in parts_of(rows, end):
            if inner[0] == "fun":
                names[inner[1]] = part_end
                inner = inner[3]
            else:
                # No name of a term is called so, and nothing is handed twice: so nothing is caught.
                names["#" + str(part_end)] = part_end
                inner = ("call", inner, ("name", "#" + str(part_end)))
        word = ""
        while inner[0] == "put":
            word += inner[1]
            inner = inner[2]
        if inner[0] == "end":
            links.append((end, word, None))
            return
        handed = []
        while inner[0] == "call":
            handed.insert(0, inner[2])
            inner = inner[1]
        goal = names[inner[1]]
        links.append((end, word, goal))
        for part_end, other in zip(parts_of(rows, goal), handed, strict=True):
            read(part_end, other, names)

    read(len(rows) - 1, normal(term), {})
    return tuple(sorted(links, key=lambda link: link[0]))


def whole(term, kind, names=(), spare=0):
    """A closed normal term, with each function in it written as a fun of all its arguments."""
    names = dict(names)
    if kind != T and term[0] == "fun":
        return ("fun", term[1], kind[1], whole(term[3], kind[2], {**names, term[1]: kind[1]}, spare))
    if kind != T:
        # Longer than the names of made-up terms, so that it stands nowhere.
        name = "spare" + LETTERS[spare]
        inner = whole(("call", term, ("name", name)), kind[2], {**names, name: kind[1]}, spare + 1)
        return ("fun", name, kind[1], inner)
    if term[0] == "put":
        return ("put", term[1], whole(term[2], T, names, spare))
    if term[0] == "end":
        return term
    handed = []
    while term[0] == "call":
        handed.insert(0, term[2])
        term = term[1]
    has = names[term[1]]
    for other in handed:
        term = ("call", term, whole(other, has[1], names, spare))
        has = has[2]
    return term


def name_of_end(end):
    return LETTERS[end] if end < 26 else LETTERS[end // 26 - 1] + LETTERS[end % 26]


def written_whole(kind, table):
    """The term that is read from a table, by the words of the document."""
    rows = ends_of(kind)

    def read(end):
        word, goal = [(link[1], link[2]) for link in table if link[0] == end][0]
        come = ("end",)
        if goal is not None:
            come = ("name", name_of_end(goal))
            for part_end in parts_of(rows, goal):
                come = ("call", come, read(part_end))
        for letter in word[::-1]:
            come = ("put", letter, come)
        for part_end in parts_of(rows, end)[::-1]:
            come = ("fun", name_of_end(part_end), rows[part_end][2], come)
        return come

    return read(len(rows) - 1)


def tables_of(kind, words=("",)):
    """All tables of a kind with these words, by writing all normal terms, in no order."""
    rows = ends_of(kind)

    def read_all(todo, links, used):
        if not todo:
            return [tuple(sorted(links, key=lambda link: link[0]))]
        (end, around), rest = todo[0], todo[1:]
        free = around + parts_of(rows, end)
        found = []
        for word in words:
            found += read_all(rest, links + [(end, word, None)], used)
            for goal in free:
                if goal not in used:
                    more = [(part_end, free) for part_end in parts_of(rows, goal)]
                    found += read_all(more + rest, links + [(end, word, goal)], used + [goal])
        return found

    return read_all([(len(rows) - 1, [])], [], [])


def walk(kind, init, steps, last, text):
    """The walk by tables as the document tells it: how it ends, what is written, what is crossed."""
    k, many = size(kind), len(text)
    place, end = 0, k
    written, crossings = [], []
    while True:
        links = last if place == 0 else init if place == many + 1 else dict(steps)[text[place - 1]]
        here = [link for link in links if link[0] == end]
        if not here:
            return ("stuck", place, end), tuple(written), tuple(crossings)
        _, word, goal = here[0]
        written += [(letter, place) for letter in word]
        if goal is None:
            return ("ends",), tuple(written), tuple(crossings)
        if place == many + 1:
            crossings.append((many, goal))
            place, end = many, goal
        elif place > 0 and goal >= k:
            crossings.append((place - 1, goal - k))
            place, end = place - 1, goal - k
        else:
            crossings.append((place, goal))
            place, end = place + 1, goal if place == many else k + goal


def least_machine(machine):
    """The least machine by putting states apart until nothing is left to put apart."""
    _, letters, rows, good = machine
    met = [0]
    for state in met:
        met += [goal for goal in dict.fromkeys(rows[state]) if goal not in met]
    apart = {state: state in good for state in met}
    while True:
        finer = {state: (apart[state], *[apart[goal] for goal in rows[state]]) for state in met}
        numbers = {told: at for at, told in enumerate(dict.fromkeys(finer.values()))}
        if len(numbers) == len(set(apart.values())):
            break
        apart = {state: numbers[finer[state]] for state in met}
    order = [apart[0]]
    one_of = {apart[state]: state for state in met}
    for told in order:
        order += [goal for goal in dict.fromkeys(apart[goal] for goal in rows[one_of[told]]) if goal not in order]
    come = tuple(tuple(order.index(apart[goal]) for goal in rows[one_of[told]]) for told in order)
    return ("machine", letters, come, tuple(at for at, told in enumerate(order) if one_of[told] in good))


def combined(word, one, other):
    many = len(other[2])
    rows = tuple(tuple(first * many + second for first, second in zip(ones, others, strict=True))
                 for ones in one[2] for others in other[2])
    good = []
    for first in range(len(one[2])):
        for second in range(many):
            told = (first in one[3], second in other[3])
            if told in {"both": [(True, True)], "first": [(True, False)]}.get(word, [(True, True), (True, False), (False, True)]):
                good.append(first * many + second)
    return least_machine(("machine", one[1], rows, tuple(good)))


def links_of_program(value):
    """The links of init, of the steps, and of last, by the normal forms of the terms."""
    _, kind, init, steps, last = value
    double = ("to", kind, kind)
    return (table_by_normal_form(init, kind), [(letter, table_by_normal_form(step, double)) for letter, step in steps],
            table_by_normal_form(last, ("to", kind, T)))


def left_links(kind, steps, last, text):
    """The left table letter by letter: each from the one ahead of it and the step of one letter more."""
    k, rows = size(kind), ends_of(kind)
    table = {end: (tuple((sign, 0) for sign in word), goal) for end, word, goal in last}
    for place, letter in enumerate(text, start=1):
        step = {end: (word, goal) for end, word, goal in dict(steps)[letter]}
        come = {}
        todo = [k]
        for end in todo:
            written, in_old, at = (), end == k, end
            while True:
                if in_old:
                    more, goal = table[at]
                    written += more
                    if goal is None:
                        break
                    in_old, at = False, k + goal
                else:
                    word, goal = step[at]
                    written += tuple((sign, place) for sign in word)
                    if goal is None or goal < k:
                        break
                    in_old, at = True, goal - k
            come[end] = (written, goal)
            if goal is not None:
                todo += parts_of(rows, goal)
        table = come
    return tuple(sorted((end, written, goal) for end, (written, goal) in table.items()))


def rows_of(ends):
    """All rows of unlike ends of any length."""
    return [()] + [(end,) + row for end in ends for row in rows_of([other for other in ends if other != end])]


def joint_standing(ones, others):
    """The joint standing of two left tables, sign for sign as the document tells it."""
    told = []
    for links in (ones, others):
        told.append((tuple((end, goal) for end, _, goal in links), tuple(end for end, written, _ in links if not written)))
    words = [{row: sum([written for at in row for end, written, _ in links if end == at], ())
              for row in rows_of([end for end, _, _ in links])} for links in (ones, others)]
    by_word = {}
    for row, word in words[1].items():
        by_word.setdefault(word, []).append(row)
    pairs = frozenset((row, other) for row, word in words[0].items() for other in by_word.get(word, []))
    return (*told, pairs)


def first_unlike(one, other):
    """The text, or None, or ("too many", most)."""
    tables = [links_of_program(value) for value in (one, other)]
    met = set()
    texts = [""]
    for text in texts:
        left = [left_links(one[1], tables[0][1], tables[0][2], text), left_links(other[1], tables[1][1], tables[1][2], text)]
        if max(map(len, left)) > 4:
            return ("too many", 4)
        standing = joint_standing(*left)
        if standing in met:
            continue
        met.add(standing)
        if len(met) > 400:
            return ("too many", 400)
        written = [walk(value[1], *told, text)[1] for value, told in zip((one, other), tables)]
        if written[0] != written[1]:
            return text
        texts += [text + letter for letter, _ in one[3]]
    return None


def put_letters(term):
    """The letters of all puts in a term, ascending."""
    own = [term[1]] if term[0] == "put" else []
    return sorted(set(own + [letter for at in inside(term) for letter in put_letters(term[at])]))


def letters_put(value):
    return sorted(set(put_letters(value[2]) + put_letters(value[4]) + [letter for _, step in value[3] for letter in put_letters(step)]))


def kind_with(kind, x):
    return x if kind == T else ("to", kind_with(kind[1], x), kind_with(kind[2], x))


def term_with(term, x, u, s):
    """The term with texts exchanged for the kind x, u and, for each letter, s of it."""
    if term[0] == "end":
        return u
    if term[0] == "put":
        return ("call", s(term[1]), term_with(term[2], x, u, s))
    if term[0] == "fun":
        return ("fun", term[1], kind_with(term[2], x), term_with(term[3], x, u, s))
    if term[0] == "call":
        return ("call", term_with(term[1], x, u, s), term_with(term[2], x, u, s))
    return term


def is_program(value):
    """Whether what is built as programs are is one: all kinds, nodes and rows small enough."""
    _, kind, init, steps, last = value
    if not is_kind(kind) or 2 * size(kind) > 60:
        return False
    told = [(kind, init), (("to", kind, T), last)] + [(("to", kind, kind), step) for _, step in steps]
    return all(fits(term) and is_term(term) and kind_of(term, {}) == wanted for wanted, term in told)


def fits(term):
    """Whether a term has few enough nodes, found with few steps."""
    pending, many = [term], 0
    while pending and many <= 400:
        part_of = pending.pop()
        many += 1
        pending += [part_of[at] for at in inside(part_of)]
    return many <= 400


Y = ("to", T, T)
UNIT = ("fun", "y", T, ("name", "y"))


def behind(first, second):
    _, x, u, told, last2 = second
    s = dict(told).get
    _, k, init, steps, last = first
    k2 = kind_with(k, x)
    inner = ("call", term_with(last, x, u, s), ("name", "z"))
    return ("program", k2, term_with(init, x, u, s), tuple((a, term_with(step, x, u, s)) for a, step in steps),
            ("fun", "z", k2, ("call", last2, inner)))


def turned_in(value):
    _, k, init, steps, last = value
    k2 = ("to", k, k)

    def turned(step):
        return ("fun", "f", k2, ("fun", "x", k, ("call", ("name", "f"), ("call", step, ("name", "x")))))

    return ("program", k2, ("fun", "x", k, ("name", "x")), tuple((a, turned(step)) for a, step in steps),
            ("fun", "f", k2, ("call", last, ("call", ("name", "f"), init))))


def turned_out(value):
    def s(b):
        return ("fun", "g", Y, ("fun", "y", T, ("call", ("name", "g"), ("put", b, ("name", "y")))))

    _, k, init, steps, last = value
    k2 = kind_with(k, Y)
    ended = ("call", ("call", term_with(last, Y, UNIT, s), ("name", "z")), ("end",))
    return ("program", k2, term_with(init, Y, UNIT, s), tuple((a, term_with(step, Y, UNIT, s)) for a, step in steps),
            ("fun", "z", k2, ended))


def both(one, other):
    def s(b):
        return ("fun", "g", Y, ("fun", "y", T, ("put", b, ("call", ("name", "g"), ("name", "y")))))

    def ex(term):
        return term_with(term, Y, UNIT, s)

    a, b = kind_with(one[1], Y), other[1]
    c = ("to", a, ("to", b, T))
    k2 = ("to", c, T)
    init = ("fun", "k", c, ("call", ("call", ("name", "k"), ex(one[2])), other[2]))
    steps = []
    for (letter, step), (_, step2) in zip(one[3], other[3], strict=True):
        led = ("call", ("call", ("name", "k"), ("call", ex(step), ("name", "a"))), ("call", step2, ("name", "b")))
        inner = ("fun", "a", a, ("fun", "b", b, led))
        steps.append((letter, ("fun", "p", k2, ("fun", "k", c, ("call", ("name", "p"), inner)))))
    told = ("call", ("call", ex(one[4]), ("name", "a")), ("call", other[4], ("name", "b")))
    last = ("fun", "p", k2, ("call", ("name", "p"), ("fun", "a", a, ("fun", "b", b, told))))
    return ("program", k2, init, tuple(steps), last)


def with_words(term, words):
    if term[0] == "put":
        come = with_words(term[2], words)
        for letter in words.get(term[1], term[1])[::-1]:
            come = ("put", letter, come)
        return come
    return tuple(with_words(item, words) if at in inside(term) else item for at, item in enumerate(term))


def relettered(value, words):
    _, k, init, steps, last = value
    words = dict(words)
    return ("program", k, with_words(init, words), tuple((a, with_words(step, words)) for a, step in steps), with_words(last, words))


def read_as(value, words):
    _, k, init, steps, last = value
    come = []
    for letter, word in words:
        body = ("name", "z")
        for sign in word[::-1]:
            body = ("call", dict(steps)[sign], body)
        come.append((letter, ("fun", "z", k, body)))
    return ("program", k, init, tuple(come), last)


def is_box_machine(value):
    """Whether value is a box machine, by the words of the document."""
    if type(value) is not tuple or len(value) != 4 or type(value[0]) is not str or value[0] != "boxes":
        return False
    _, letters, begun, rows = value
    if type(letters) is not str or not letters or any(sign not in LETTERS for sign in letters):
        return False
    if list(letters) != sorted(set(letters)) or type(begun) is not tuple or type(rows) is not tuple:
        return False
    if any(type(text) is not str or any(sign not in LETTERS for sign in text) for text in begun) or not 1 <= len(rows) <= 400:
        return False
    for row in rows:
        if type(row) is not tuple or len(row) != 3 or type(row[0]) is not int or not 0 <= row[0] <= 60:
            return False
    if rows[0][0] != len(begun):
        return False

    def pieces_are_right(many, fills):
        if any(type(fill) is not tuple for fill in fills):
            return False
        used = [piece for fill in fills for piece in fill if not (type(piece) is str and len(piece) == 1 and piece in LETTERS)]
        return all(type(piece) is int and 0 <= piece < many for piece in used) and len(used) == len(set(used))

    for many, moves, out in rows:
        if type(moves) is not tuple or len(moves) != len(letters) or not pieces_are_right(many, (out,)):
            return False
        for move in moves:
            if type(move) is not tuple or len(move) != 2 or type(move[0]) is not int or not 0 <= move[0] < len(rows):
                return False
            if type(move[1]) is not tuple or len(move[1]) != rows[move[0]][0] or not pieces_are_right(many, move[1]):
                return False
    return True


def box_contents(boxes, text):
    _, letters, begun, rows = boxes
    row, held = 0, list(begun)
    for letter in text:
        goal, fills = rows[row][1][letters.index(letter)]
        held = [put_together(fill, held) for fill in fills]
        row = goal
    return row, held


def put_together(pieces, held):
    return "".join(piece if isinstance(piece, str) else held[piece] for piece in pieces)


def fronts(value, most=1000):
    """The shapes of fronts, numbered as a walk first meets them, each with the first text that has it."""
    _, steps, last = links_of_program(value)
    letters = [letter for letter, _ in steps]

    def shape(text):
        return tuple((end, goal) for end, _, goal in left_links(value[1], steps, last, text))

    numbers = {shape(""): 0}
    texts = [""]
    for text in texts:
        for letter in letters:
            if shape(text + letter) not in numbers:
                numbers[shape(text + letter)] = len(texts)
                texts.append(text + letter)
        if len(texts) > most:
            break
    return numbers, texts


def row_of_numbers(boxes, text, base, digits):
    """The row of numbers of a text for a program with this box machine, as a dict from places."""
    row, held = box_contents(boxes, text)
    told = {(): 1}
    for word in held:
        worth = 0
        for letter in word:
            worth = worth * base + digits[letter]
        told = {way + (choice,): number * factor for way, number in told.items()
                for choice, factor in enumerate((1, base ** len(word), worth))}
    return {(row, way): number for way, number in told.items()}


class Fractions:
    """Rows, as dicts from places, of which none is a sum of multiples of the others: by fractions, and exactly."""

    def __init__(self):
        self.rows = []

    def adds(self, row):
        rest = {place: Fraction(number) for place, number in row.items() if number}
        for place, other in self.rows:
            if rest.get(place, 0):
                times = rest[place]
                for key, number in other.items():
                    rest[key] = rest.get(key, 0) - times * number
        rest = {key: number for key, number in rest.items() if number}
        if not rest:
            return False
        place = min(rest)
        self.rows.append((place, {key: number / rest[place] for key, number in rest.items()}))
        return True


def row_basis(one, other, one_boxes, other_boxes, whole=False):
    """All texts by length whose rows are no sums; whole: not only those that come behind a text that is none."""
    put = sorted(set(letters_put(one) + letters_put(other)))
    digits = {letter: at + 1 for at, letter in enumerate(put)}
    letters = [letter for letter, _ in one[3]]
    found, fractions, level = [], Fractions(), [""]
    while level:
        news = []
        for text in level:
            row = {}
            for which, boxes in enumerate((one_boxes, other_boxes)):
                for place, number in row_of_numbers(boxes, text, len(put) + 1, digits).items():
                    row[(which, *place)] = number
            if fractions.adds(row):
                news.append(text)
        found += news
        level = [text + letter for text in (level if whole and news else news) for letter in letters]
    return found
