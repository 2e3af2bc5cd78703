"""What the document tells, written a second time, as plainly as it goes and without the package."""

from itertools import count

KEPT = ["call", "end", "fun", "name", "put", "text", "to"]
LETTERS = "abcdefghijklmnopqrstuvwxyz"
T = ("text",)


def size(kind):
    return 1 if kind == T else size(kind[1]) + size(kind[2])


def has_form_of_kind(value, deep=0):
    if type(value) is not tuple or deep > 70:
        return False
    if len(value) == 1:
        return type(value[0]) is str and value[0] == "text"
    return (len(value) == 3 and type(value[0]) is str and value[0] == "to"
            and has_form_of_kind(value[1], deep + 1) and has_form_of_kind(value[2], deep + 1))


def is_kind(value):
    return has_form_of_kind(value) and size(value) <= 60


def is_name(value):
    return (type(value) is str and 1 <= len(value) <= 8 and all(sign in LETTERS for sign in value)
            and value not in KEPT)


def inside(term):
    return {"name": [], "end": [], "put": [2], "fun": [3], "call": [1, 2]}[term[0]]


def has_form_of_term(value, deep=1):
    if type(value) is not tuple or not value or type(value[0]) is not str or deep > 60:
        return False
    if value[0] == "end":
        return len(value) == 1
    if value[0] == "name":
        return len(value) == 2 and is_name(value[1])
    if value[0] == "put":
        return (len(value) == 3 and type(value[1]) is str and len(value[1]) == 1 and value[1] in LETTERS
                and has_form_of_term(value[2], deep + 1))
    if value[0] == "fun":
        return (len(value) == 4 and is_name(value[1]) and is_kind(value[2])
                and has_form_of_term(value[3], deep + 1))
    return (value[0] == "call" and len(value) == 3 and has_form_of_term(value[1], deep + 1)
            and has_form_of_term(value[2], deep + 1))


def nodes(term):
    return 1 + sum(nodes(term[at]) for at in inside(term))


def row(term):
    return 1 + max([0] + [row(term[at]) for at in inside(term)])


def free_places(term):
    """The paths of all free names, in pairs with the names."""
    if term[0] == "name":
        return [(term[1], ())]
    found = [(name, (at,) + path) for at in inside(term) for name, path in free_places(term[at])]
    if term[0] == "fun":
        found = [(name, path) for name, path in found if name != term[1]]
    return found


def all_paths(term):
    return [()] + [(at,) + path for at in inside(term) for path in all_paths(term[at])]


def part(term, path):
    for at in path:
        term = term[at]
    return term


def uses_once(term):
    free = [name for name, _ in free_places(term)]
    if len(free) != len(set(free)):
        return False
    for path in all_paths(term):
        fun = part(term, path)
        if fun[0] == "fun" and [name for name, _ in free_places(fun[3])].count(fun[1]) > 1:
            return False
    return True


def is_term(value):
    return has_form_of_term(value) and nodes(value) <= 400 and uses_once(value)


def kind_of(term, names):
    """names is a dict; None if the term has no kind."""
    if term[0] == "name":
        return names.get(term[1])
    if term[0] == "end":
        return T
    if term[0] == "put":
        return T if kind_of(term[2], names) == T else None
    if term[0] == "fun":
        inner = dict(names)
        inner[term[1]] = term[2]
        result = kind_of(term[3], inner)
        if result is None or size(term[2]) + size(result) > 60:
            return None
        return ("to", term[2], result)
    one, other = kind_of(term[1], names), kind_of(term[2], names)
    if one is None or other is None or one == T or one[1] != other:
        return None
    return one[2]


def is_closed(value):
    return is_term(value) and kind_of(value, {}) is not None


def exchanged(term, path, come):
    if not path:
        return come
    return term[:path[0]] + (exchanged(term[path[0]], path[1:], come),) + term[path[0] + 1:]


def without_names(term, bound=()):
    """The term with each bound name told by how many funs stand between it and its own."""
    if term[0] == "name":
        return ("bound", bound.index(term[1])) if term[1] in bound else term
    if term[0] == "fun":
        return ("fun", term[2], without_names(term[3], (term[1],) + bound))
    return tuple(without_names(item, bound) if at in inside(term) else item for at, item in enumerate(term))


def row_of_names():
    for length in count(1):
        for number in range(26 ** length):
            yield "".join(LETTERS[number // 26 ** at % 26] for at in reversed(range(length)))


def names_in(term):
    own = [term[1]] if term[0] in ("name", "fun") else []
    return own + [name for at in inside(term) for name in names_in(term[at])]


def renamed(term, path, name):
    fun = part(term, path)
    body = fun[3]
    for free, place in free_places(body):
        if free == fun[1]:
            body = exchanged(body, place, ("name", name))
    return exchanged(term, path, ("fun", name, fun[2], body))


def doable(term):
    return [path for path in all_paths(term) if part(term, path)[0] == "call" and part(term, path)[1][0] == "fun"]


def drops_at(term, path):
    fun = part(term, path)[1]
    return fun[1] not in [name for name, _ in free_places(fun[3])]


def done(term, path):
    fun = part(term, path)[1]
    handed = part(term, path)[2]
    places = [place for name, place in free_places(fun[3]) if name == fun[1]]
    if not places:
        return exchanged(term, path, fun[3])
    free = [name for name, _ in free_places(handed)]
    for deep in range(len(places[0])):
        at = path + (1, 3) + places[0][:deep]
        if part(term, at)[0] == "fun" and part(term, at)[1] in free:
            standing = names_in(term)
            spare = next(name for name in row_of_names() if name not in KEPT and name not in standing)
            term = renamed(term, at, spare)
    return exchanged(term, path, exchanged(part(term, path)[1][3], places[0], handed))


def normal(term):
    while doable(term):
        term = done(term, doable(term)[0])
    return term


def most_path(term, base=()):
    """The path of the call that the document tells to be done in most."""
    first = [path for path in doable(term) if path[:len(base)] == base][0]
    handed = first + (2,)
    if not drops_at(term, first) or not [path for path in doable(term) if path[:len(handed)] == handed]:
        return first
    return most_path(term, handed)


def most_order(term):
    order = []
    while doable(term):
        order.append(most_path(term))
        term = done(term, order[-1])
    return order


def all_orders(term):
    """All orders that lead to a normal term: triples of the paths, whether one drops, and what comes."""
    can = doable(term)
    if not can:
        return [([], False, term)]
    return [([path] + order, drops_at(term, path) or drop, come)
            for path in can for order, drop, come in all_orders(done(term, path))]


def terms_of_nodes(many, names, letters="a"):
    """All terms, their names used once at most, with so many nodes, these names alone, and all kinds text."""
    rows = {}
    for now in range(1, many + 1):
        found = [("end",)] + [("name", name) for name in names] if now == 1 else []
        for inner in rows.get(now - 1, []):
            found += [("put", letter, inner) for letter in letters]
            found += [("fun", name, T, inner) for name in names]
        for left in range(1, now - 1):
            found += [("call", one, other) for one in rows[left] for other in rows[now - 1 - left]]
        rows[now] = [term for term in found if uses_once(term)]
    return rows[many]


def ends_of(kind):
    """The ends from left to right as triples: whether asked, the end that keeps it, the kind whose result it is."""
    rows = []

    def lay(part_kind, asked):
        kept = []
        whole = part_kind
        while part_kind != T:
            lay(part_kind[1], not asked)
            kept.append(len(rows) - 1)
            part_kind = part_kind[2]
        rows.append([asked, None, whole])
        for end in kept:
            rows[end][1] = len(rows) - 1

    lay(kind, True)
    return [tuple(told) for told in rows]


def parts_of(rows, end):
    return [other for other in range(len(rows)) if rows[other][1] == end]


def table_by_normal_form(term, kind):
    """The table of a closed term, by its normal form written as funs of all arguments."""
    rows = ends_of(kind)
    links = []

    def read(end, inner, names):
        names = dict(names)
        for part_end in parts_of(rows, end):
            if inner[0] == "fun":
                names[inner[1]] = part_end
                inner = inner[3]
            else:
                # No name of a term is called so, and nothing is handed twice: so nothing is caught.
                names["#" + str(part_end)] = part_end
                inner = ("call", inner, ("name", "#" + str(part_end)))
        word = ""
        while inner[0] == "put":
            word += inner[1]
            inner = inner[2]
        if inner[0] == "end":
            links.append((end, word, None))
            return
        handed = []
        while inner[0] == "call":
            handed.insert(0, inner[2])
            inner = inner[1]
        goal = names[inner[1]]
        links.append((end, word, goal))
        for part_end, other in zip(parts_of(rows, goal), handed, strict=True):
            read(part_end, other, names)

    read(len(rows) - 1, normal(term), {})
    return tuple(sorted(links, key=lambda link: link[0]))


def whole(term, kind, names=(), spare=0):
    """A closed normal term, with each function in it written as a fun of all its arguments."""
    names = dict(names)
    if kind != T and term[0] == "fun":
        return ("fun", term[1], kind[1], whole(term[3], kind[2], {**names, term[1]: kind[1]}, spare))
    if kind != T:
        # Longer than the names of made-up terms, so that it stands nowhere.
        name = "spare" + LETTERS[spare]
        inner = whole(("call", term, ("name", name)), kind[2], {**names, name: kind[1]}, spare + 1)
        return ("fun", name, kind[1], inner)
    if term[0] == "put":
        return ("put", term[1], whole(term[2], T, names, spare))
    if term[0] == "end":
        return term
    handed = []
    while term[0] == "call":
        handed.insert(0, term[2])
        term = term[1]
    has = names[term[1]]
    for other in handed:
        term = ("call", term, whole(other, has[1], names, spare))
        has = has[2]
    return term


def name_of_end(end):
    return LETTERS[end] if end < 26 else LETTERS[end // 26 - 1] + LETTERS[end % 26]


def written_whole(kind, table):
    """The term that is read from a table, by the words of the document."""
    rows = ends_of(kind)

    def read(end):
        word, goal = [(link[1], link[2]) for link in table if link[0] == end][0]
        come = ("end",)
        if goal is not None:
            come = ("name", name_of_end(goal))
            for part_end in parts_of(rows, goal):
                come = ("call", come, read(part_end))
        for letter in word[::-1]:
            come = ("put", letter, come)
        for part_end in parts_of(rows, end)[::-1]:
            come = ("fun", name_of_end(part_end), rows[part_end][2], come)
        return come

    return read(len(rows) - 1)


def tables_of(kind, words=("",)):
    """All tables of a kind with these words, by writing all normal terms, in no order."""
    rows = ends_of(kind)

    def read_all(todo, links, used):
        if not todo:
            return [tuple(sorted(links, key=lambda link: link[0]))]
        (end, around), rest = todo[0], todo[1:]
        free = around + parts_of(rows, end)
        found = []
        for word in words:
            found += read_all(rest, links + [(end, word, None)], used)
            for goal in free:
                if goal not in used:
                    more = [(part_end, free) for part_end in parts_of(rows, goal)]
                    found += read_all(more + rest, links + [(end, word, goal)], used + [goal])
        return found

    return read_all([(len(rows) - 1, [])], [], [])


def walk(kind, init, steps, last, text):
    """The walk by tables as the document tells it: how it ends, what is written, what is crossed."""
    k, many = size(kind), len(text)
    place, end = 0, k
    written, crossings = [], []
    while True:
        links = last if place == 0 else init if place == many + 1 else dict(steps)[text[place - 1]]
        here = [link for link in links if link[0] == end]
        if not here:
            return ("stuck", place, end), tuple(written), tuple(crossings)
        _, word, goal = here[0]
        written += [(letter, place) for letter in word]
        if goal is None:
            return ("ends",), tuple(written), tuple(crossings)
        if place == many + 1:
            crossings.append((many, goal))
            place, end = many, goal
        elif place > 0 and goal >= k:
            crossings.append((place - 1, goal - k))
            place, end = place - 1, goal - k
        else:
            crossings.append((place, goal))
            place, end = place + 1, goal if place == many else k + goal
