"""Programs and values for the tests, chosen by chance, but the same ones each time."""

import random

from fieldrest.forms import places_of

FORMS = ["make", "make", "get", "get", "get", "put", "put", "put", "sum", "if", "if", "call", "call", "call"]
SHORT = ["number", "input", "input"]


def some_body(r, deep, many, ahead, labels):
    """Return a body at most so deep, with these labels; `ahead` has names with their numbers of inputs."""
    def inner():
        return some_body(r, deep - 1, many, ahead, labels)

    form = r.choice(SHORT if deep == 1 or r.random() < 0.1 else FORMS)
    if form == "input" and many:
        return ("input", r.randrange(many))
    if form == "make":
        return ("make", tuple((label, inner()) for label in r.sample(labels, r.randint(0, min(3, len(labels))))))
    if form == "get":
        return ("get", inner(), r.choice(labels))
    if form == "put":
        return ("put", inner(), r.choice(labels), inner())
    if form == "sum":
        return ("sum", inner(), inner())
    if form == "if":
        return ("if", inner() if r.random() < 0.3 else ("number", r.randint(0, 1)), inner(), inner())
    if form == "call" and ahead:
        name, inputs = r.choice(ahead)
        return ("call", name, tuple(inner() for _ in range(inputs)))
    return ("number", r.randint(-2, 2))


def some_program(seed, good):
    """Return a program; `good` tells whether one stands that a definition is added to, else others are tried."""
    r = random.Random(seed)
    labels = "abcd"[:r.randint(1, 4)]
    program = []
    for name in "fghijk"[:r.randint(1, 6)]:
        ahead = [(other, many) for other, many, _ in program]
        many, deep, least = r.choice([0, 1, 1, 2, 2, 3, 4]), r.randint(3, 6), r.choice([1, 4, 7, 10])
        for _ in range(40):
            body = ()
            while not body or not least <= len(places_of(body)) <= 60:
                body = some_body(r, deep, many, ahead, labels)
            if r.random() < 0.01 or good(program + [(name, many, body)]):
                break
        program.append((name, many, body))
    return program


def some_value(r, kind, deep=3):
    """Return a value of a kind: any of a blank, some further fields of a rest."""
    if kind[0] == "number" or deep == 0 and kind[0] == "blank":
        return r.randint(-1, 2)
    if kind[0] == "blank" and r.random() < 0.5:
        return r.randint(-1, 2)
    fields = {}
    if deep > 0 and (kind[0] == "blank" or kind[2] is not None):
        fields = {label: some_value(r, ("blank", 0), deep - 1) for label in "abcde" if r.random() < 0.4}
    if kind[0] == "record":
        fields.update({label: some_value(r, inner, deep - 1) for label, inner in kind[1]})
    return tuple(sorted(fields.items()))
