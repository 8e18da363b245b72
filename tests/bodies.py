"""Bodies for the tests, and the places that each of them has."""

ONE = ("number", 1)
TWO = ("number", 2)
THREE = ("number", 3)
SUM = ("sum", ONE, TWO)

_ROWS = ("make", (("c", ONE), ("a", SUM), ("b", THREE)))
_FORM_LABELS = ("make", (("sum", ONE), ("get", SUM), ("number", ("input", 0)), ("make", ("make", ()))))
_FOUR = ("call", "f", (THREE, ONE, SUM, TWO))
_FORM_CALLS = ("call", "sum", (("call", "make", ()), ("call", "get", (ONE,)), ("call", "if", (ONE, SUM))))

# By name: the rows of a place and the body there, in the order of the places; the last row is the body itself.
SMALL = {
    "number": [((), ("number", -10 ** 12))],
    "input": [((), ("input", 3))],
    "make without fields": [((), ("make", ()))],
    "make of one field": [((0,), ONE), ((), ("make", (("a", ONE),)))],
    "make whose labels do not rise": [
        ((0,), ONE), ((1, 0), ONE), ((1, 1), TWO), ((1,), SUM), ((2,), THREE), ((), _ROWS),
    ],
    "get": [((0,), ONE), ((), ("get", ONE, "a"))],
    "put": [((0,), ONE), ((1,), TWO), ((), ("put", ONE, "a", TWO))],
    "sum": [((0,), ONE), ((1,), TWO), ((), SUM)],
    "if": [((0,), ONE), ((1,), TWO), ((2,), THREE), ((), ("if", ONE, TWO, THREE))],
    "call without bodies": [((), ("call", "f", ()))],
    "call of one body": [((0,), ONE), ((), ("call", "f", (ONE,)))],
    "call of four bodies": [
        ((0,), THREE), ((1,), ONE), ((2, 0), ONE), ((2, 1), TWO), ((2,), SUM), ((3,), TWO), ((), _FOUR),
    ],
    "the same body twice": [
        ((0, 0), ONE), ((0, 1), TWO), ((0,), SUM),
        ((1, 0), ONE), ((1, 1), TWO), ((1,), SUM),
        ((), ("sum", SUM, SUM)),
    ],
    "labels of make spelled like forms": [
        ((0,), ONE), ((1, 0), ONE), ((1, 1), TWO), ((1,), SUM), ((2,), ("input", 0)), ((3,), ("make", ())),
        ((), _FORM_LABELS),
    ],
    "labels of get spelled like forms": [
        ((0, 0), ONE), ((0,), ("get", ONE, "sum")), ((), ("get", ("get", ONE, "sum"), "get")),
    ],
    "labels of put spelled like forms": [
        ((0, 0), ONE), ((0, 1), TWO), ((0,), ("put", ONE, "get", TWO)), ((1,), THREE),
        ((), ("put", ("put", ONE, "get", TWO), "make", THREE)),
    ],
    "called names spelled like forms": [
        ((0,), ("call", "make", ())),
        ((1, 0), ONE), ((1,), ("call", "get", (ONE,))),
        ((2, 0), ONE), ((2, 1, 0), ONE), ((2, 1, 1), TWO), ((2, 1), SUM), ((2,), ("call", "if", (ONE, SUM))),
        ((), _FORM_CALLS),
    ],
}


def eight_deep():
    """Return the rows of a body that is 8 deep, of all eight forms."""
    put = ("put", ("input", 0), "a", ("number", -5))
    get = ("get", put, "b")
    added = ("sum", ONE, get)
    choice = ("if", ("input", 1), added, TWO)
    called = ("call", "f", (THREE, choice))
    made = ("make", (("c", TWO), ("a", called)))
    return [
        ((0, 0), TWO),
        ((0, 1, 0), THREE),
        ((0, 1, 1, 0), ("input", 1)),
        ((0, 1, 1, 1, 0), ONE),
        ((0, 1, 1, 1, 1, 0, 0), ("input", 0)),
        ((0, 1, 1, 1, 1, 0, 1), ("number", -5)),
        ((0, 1, 1, 1, 1, 0), put),
        ((0, 1, 1, 1, 1), get),
        ((0, 1, 1, 1), added),
        ((0, 1, 1, 2), TWO),
        ((0, 1, 1), choice),
        ((0, 1), called),
        ((0,), made),
        ((1,), THREE),
        ((), ("put", made, "c", THREE)),
    ]


def wide(many):
    """Return the rows of a make of `many` fields; their labels fall, their numbers rise."""
    labels = [chr(122 - k // 26) + chr(122 - k % 26) for k in range(many)]
    fields = tuple((labels[k], ("number", k)) for k in range(many))
    return [((k,), ("number", k)) for k in range(many)] + [((), ("make", fields))]


def behind(number, rows):
    """Return the rows of a body as they stand where it is the one of this number within another."""
    return [((number,) + place, body) for place, body in rows]


def around(form, *parts):
    """Return the rows of form(bodies), given the rows of the bodies right within it."""
    rows = [row for k, part in enumerate(parts) for row in behind(k, part)]
    return rows + [((), form(*[part[-1][1] for part in parts]))]


def full_sums(levels, first=0):
    """Return the rows of sums in sums: 2 ** levels - 1 places, the numbers all unlike."""
    if levels == 1:
        return [((), ("number", first))]
    half = 2 ** (levels - 2)
    left, right = full_sums(levels - 1, first), full_sums(levels - 1, first + half)
    return around(lambda b, c: ("sum", b, c), left, right)


def sixty():
    """Return the rows of a body of 60 places, of several forms and some levels."""
    lower = around(lambda b: ("get", b, "a"), full_sums(4))
    return around(lambda b, c, d: ("if", b, c, d), full_sums(5), lower, wide(11))


def gets(many):
    """Return the rows of `many` gets, one within another."""
    rows = [((), ("input", 0))]
    for _ in range(many):
        rows = around(lambda b: ("get", b, "sum"), rows)
    return rows


def puts(many):
    """Return the rows of `many` puts, each within the other's second body."""
    rows = [((), ("input", 0))]
    for k in range(many):
        rows = around(lambda b, c: ("put", b, "a", c), [((), ("number", k))], rows)
    return rows


GREAT = {
    "eight deep": eight_deep(),
    "60 places, in one make": wide(59),
    "60 places, of several forms": sixty(),
    "many more than 60 places": wide(200),
    "deeper, the first one within": gets(60),
    "deeper, the last one within": puts(60),
    "deeper and greater": around(lambda b, c: ("sum", b, c), full_sums(9), puts(20)),
}

ALL = {**SMALL, **GREAT}
