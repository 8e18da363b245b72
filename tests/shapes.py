"""Short ways to write bodies and kinds for the tests."""

NUMBER = ("number",)
ZERO = ("number", 0)
ONE = ("number", 1)
I, J, K, L = [("input", k) for k in range(4)]
EMPTY = ("make", ())


def blank(n):
    return ("blank", n)


def record(rest=None, **fields):
    """Return the kind of a record; the fields come by label, in any order."""
    return ("record", tuple(sorted(fields.items())), rest)


def rest(further=None, **fields):
    """Return what fills a rest: these fields, then a further rest or none."""
    return (tuple(sorted(fields.items())), further)


def make(**fields):
    return ("make", tuple(fields.items()))


def get(body, label):
    return ("get", body, label)


def put(body, label, inner):
    return ("put", body, label, inner)


def add(one, other):
    return ("sum", one, other)


def either(one, other, due=ZERO):
    return ("if", due, one, other)


def call(name, *bodies):
    return ("call", name, bodies)


def seq(*bodies):
    """Return a body that comes to the last of these bodies, whose places come in order."""
    labels = "abcdefghijklmnop"[:len(bodies)]
    return get(make(**dict(zip(labels, bodies))), labels[-1])


def value(**fields):
    """Return the record of these values."""
    return tuple(sorted(fields.items()))


def nest(wrap, many, inner):
    """Return `inner`, wrapped so many times."""
    for _ in range(many):
        inner = wrap(inner)
    return inner


def labels(many):
    """Return so many labels, rising."""
    return [chr(97 + k // 26) + chr(97 + k % 26) for k in range(many)]


def wide(many, kind=NUMBER, last=None):
    """Return the kind of a record with so many fields of one kind."""
    return ("record", tuple((label, kind) for label in labels(many)), last)


def deep(many, inner=NUMBER):
    """Return the kind of records in a record, so many, the innermost around `inner`."""
    return nest(lambda kind: record(a=kind), many, inner)
