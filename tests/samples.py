"""Values that the tests pass: short ways to write kinds and terms, odd values, and rows of made-up ones."""

from oneuseheads.errors import HeadError

T = ("text",)
END = ("end",)


def to(*kinds):
    """The kind of functions from all but the last of kinds to the last."""
    come = kinds[-1]
    for kind in reversed(kinds[:-1]):
        come = ("to", kind, come)
    return come


TT = to(T, T)
TTT = to(T, T, T)
HIGH = to(TT, T, T)


def texts_to(many):
    """The kind of functions that are handed this many texts: it has one end more."""
    return to(*([T] * (many + 1)))


def n(name):
    return ("name", name)


def fun(name, kind, body):
    return ("fun", name, kind, body)


def call(one, *handed):
    come = one
    for other in handed:
        come = ("call", come, other)
    return come


def put(word, body):
    come = body
    for letter in reversed(word):
        come = ("put", letter, come)
    return come


IDENTITY = fun("x", T, n("x"))


def nested(many, make, inner):
    """What comes if make is applied this many times."""
    come = inner
    for _ in range(many):
        come = make(come)
    return come


def term_of_row(row):
    """A term with just so many nodes in a row, and no more."""
    return put("a" * (row - 1), END)


def term_of_nodes(nodes):
    """A closed text term of just so many nodes, with few in a row."""
    if nodes <= 39:
        return put("b" * (nodes - 1), END)
    left = (nodes - 2) // 2
    return call(fun("x", T, term_of_nodes(left)), term_of_nodes(nodes - 2 - left))


# Many kinds of values; no kind, term, table, program or head among them.
def odd_values():
    deep_list, deep_dict, shared = [], {}, ("to", 1, 2)
    deep_tuple = ()
    for _ in range(295):
        deep_list = [deep_list]
        deep_dict = {"to": deep_dict}
        deep_tuple = (deep_tuple,)
        shared = ("to", shared, shared)
    return [0, 1, 2, -1, 60, 10 ** 29, True, False, None, "", "a", "to", "text", "end", "x", "A", "\n", [], (), {},
            (1,), (True,), (None,), ("",), [1], ["text"], [("text",)], ["to", T, T], ("to", T), ("to", T, T, T), ("to",),
            ("to", T, ["text"]), ("to", T, ("text", "text")), ("to", T, ("TEXT",)), ("text", T), {"text": True},
            ["end"], ("end", "end"), ("END",), ("name",), ("name", "x", "y"), ("name", 1), ("name", ("x",)),
            ("fun", "x", T), ("fun", "x", T, END, END), ("fun", T, END), ("call", END), ("call", END, END, END),
            ("put", "a"), ("put", "ab", END), ("put", "", END), ("put", "A", END), ("put", ("a",), END), (("end",),),
            ("program",), ("head",), ("program", T, END, (), END), ("head", T, (), (), ()), HeadError("no"),
            deep_list, deep_dict, deep_tuple, shared, ("to", ("to", T, T), [T]), ("name", "x\n"), ("put", "\n", END)]


def spoiled(value):
    """Values that are unlike value in one place alone: a list for a tuple, an odd item, one item less or more."""
    if isinstance(value, tuple):
        yield list(value)
        yield {key: key for key in range(len(value))}
        for at in range(len(value)):
            yield value[:at] + value[at + 1:]
            yield value[:at] + (value[at],) + value[at:]
            for item in spoiled(value[at]):
                yield value[:at] + (item,) + value[at + 1:]
    elif isinstance(value, str):
        yield from (value + "x", value.upper(), "", "to", "end", 1, None, True, (value,))
    elif isinstance(value, int):
        yield from (value + 1, value - 1, -1, value + 60, bool(value), None, "a", "", (value,))
    else:
        yield from (0, "", True, "None", (), 60)


class Numbers:
    """Numbers that look as if drawn, the same in every run."""

    def __init__(self, seed):
        self.state = seed * 7919 + 12345

    def below(self, many):
        self.state = (self.state * 6364136223846793005 + 1442695040888963407) % 2 ** 64
        return (self.state >> 33) % many

    def one_of(self, things):
        return things[self.below(len(things))]


def made_kind(numbers, ends):
    """A kind with just so many ends."""
    if ends == 1:
        return T
    first = 1 + numbers.below(ends - 1)
    return ("to", made_kind(numbers, first), made_kind(numbers, ends - first))


def made_term(numbers, kind, names, fuel):
    """A term of kind that uses some of names, a list of pairs, each once at most."""
    choices = [_made_from_name] * 3
    if fuel > 0:
        choices += [_made_call, _made_put]
    for _ in range(4):
        term = numbers.one_of(choices)(numbers, kind, names, fuel)
        if term is not None:
            return term
    if kind == T:
        return END
    return _made_fun(numbers, kind, names, fuel)


def _made_fun(numbers, kind, names, fuel):
    name = numbers.one_of(["x", "y", "z", "a", "b"])
    inner = [pair for pair in names if pair[0] != name] + [(name, kind[1])]
    return fun(name, kind[1], made_term(numbers, kind[2], inner, fuel))


def _made_put(numbers, kind, names, fuel):
    if kind == T:
        return put(numbers.one_of(["a", "b", "cc", "z"]), made_term(numbers, T, names, fuel - 1))
    return None


def _parted(numbers, names):
    one, other = [], []
    for pair in names:
        numbers.one_of([one, other]).append(pair)
    return one, other


def _made_call(numbers, kind, names, fuel):
    handed = made_kind(numbers, 1 + numbers.below(4))
    one, other = _parted(numbers, names)
    caller = made_term(numbers, ("to", handed, kind), one, fuel - 1)
    return call(caller, made_term(numbers, handed, other, fuel - 2))


def _made_from_name(numbers, kind, names, fuel):
    """A name called until it has the kind, None if no name does, and a fun for functions now and then."""
    if kind != T and numbers.below(3) == 0:
        return _made_fun(numbers, kind, names, fuel)
    for _ in range(3):
        if not names:
            return None
        name, has = numbers.one_of(names)
        rest = [pair for pair in names if pair[0] != name]
        come = n(name)
        while has != kind and has != T:
            mine, rest = _parted(numbers, rest)
            come = call(come, made_term(numbers, has[1], mine, fuel - 1))
            has = has[2]
        if has == kind:
            return come
    return None


def made_program(numbers, most_ends=4, fuel=5, letters=None):
    """A program."""
    kind = made_kind(numbers, 1 + numbers.below(most_ends))
    letters = letters or numbers.one_of(["a", "ab", "bz", "abc", "aeio"])
    return ("program", kind, made_term(numbers, kind, [], fuel),
            tuple((letter, made_term(numbers, to(kind, kind), [], fuel)) for letter in letters),
            made_term(numbers, to(kind, T), [], fuel))


def made_text(numbers, letters, most):
    return "".join(numbers.one_of(letters) for _ in range(numbers.below(most + 1)))


def made_loose(numbers, kind, signs):
    """A loose table of the kind with these signs."""
    asked = [end for end in range(len(signs)) if signs[end]]
    goals = [None] + [end for end in range(len(signs)) if not signs[end]]
    links = []
    for end in asked:
        if numbers.below(8):
            goal = numbers.one_of(goals)
            if goal is not None:
                goals.remove(goal)
            links.append((end, numbers.one_of(["", "", "a", "bc"]), goal))
    return tuple(links)


# The programs that the document tells, and some more.
def turning_step(letter):
    return fun("f", TT, fun("x", T, call(n("f"), put(letter, n("x")))))


TURNED = ("program", TT, IDENTITY, (("a", turning_step("a")), ("b", turning_step("b"))), fun("f", TT, call(n("f"), END)))
DOUBLED = ("program", T, END, (("a", fun("x", T, put("aa", n("x")))), ("b", IDENTITY)), IDENTITY)
FORGETTING = ("program", T, put("c", END), (("a", fun("x", T, put("a", END))), ("b", fun("x", T, put("b", n("x"))))),
              fun("x", T, put("z", n("x"))))
DROPPING = ("program", TT, fun("x", T, END), (("q", fun("f", TT, fun("x", T, call(n("f"), END)))),),
            fun("f", TT, put("k", END)))
THERE_AND_BACK = ("program", TT, fun("x", T, put("m", n("x"))),
                  (("a", fun("f", TT, fun("x", T, put("a", call(n("f"), put("a", n("x"))))))),
                   ("b", fun("f", TT, fun("x", T, call(n("f"), put("b", n("x"))))))),
                  fun("f", TT, put("s", call(n("f"), put("t", END)))))
PROGRAMS = [TURNED, DOUBLED, FORGETTING, DROPPING, THERE_AND_BACK]


def refused(test, function, right, wrong):
    """Each wrong value is refused with its error, also if parameters checked later are wrong, too.

    right is a dict from parameters to right values; wrong a list of triples (parameter, error, values), in the order
    in which they are checked, error being a class, or a class and the fields.
    """
    function(**right)
    function(*right.values())
    for at, (parameter, error, values) in enumerate(wrong):
        for value in values:
            told = {**right, parameter: value}
            check_error(test, error, function, told)
            for later, _, others in wrong[at + 1:]:
                if later != parameter:
                    check_error(test, error, function, {**told, later: others[0]})
                    check_error(test, error, function, {**told, later: others[-1]})


def copied(value, known):
    """A copy of value, known being what has been copied: values may share parts."""
    if id(value) not in known:
        come = value
        if isinstance(value, (list, tuple)):
            items = [copied(item, known) for item in value]
            if isinstance(value, list) or any(new is not old for new, old in zip(items, value)):
                come = type(value)(items)
        elif isinstance(value, dict):
            come = {key: copied(item, known) for key, item in value.items()}
        known[id(value)] = come
    return known[id(value)]


def check_error(test, error, function, told):
    held = copied(told, {})
    wanted, fields = error if isinstance(error, tuple) else (error, {})
    try:
        come = function(**told)
    except HeadError as found:
        test.assertIs(type(found), wanted, (function, told))
        for field, value in fields.items():
            test.assertEqual(getattr(found, field), value, (function, told))
    else:
        test.fail(f"{function} told {come!r} of {told!r}")
    test.assertEqual(held, told)
