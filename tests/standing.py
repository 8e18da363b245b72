"""Whether a kind stands for a definition, worked out from the inputs' kinds on, place by place: point 8 as it stands.

It is for inputs' kinds without blanks, where each place can have one kind at most. It shares no code with the package.
"""

import itertools

NUMBER = ("number",)


class DoesNot(Exception):
    """A place can have no kind."""


def due(truth):
    if not truth:
        raise DoesNot


def result_kind(body, inputs, told):
    """Return the kind of a body; DoesNot where a place can have none. `told` has the told kinds of those ahead."""
    form = body[0]
    if form == "number":
        return NUMBER
    if form == "input":
        return inputs[body[1]]
    if form == "make":
        return ("record", tuple(sorted((label, result_kind(inner, inputs, told)) for label, inner in body[1])), None)
    if form in ("get", "put"):
        kind = result_kind(body[1], inputs, told)
        due(kind[0] == "record" and body[2] in dict(kind[1]))
        fields = dict(kind[1])
        if form == "get":
            return fields[body[2]]
        fields[body[2]] = result_kind(body[3], inputs, told)
        return ("record", tuple(sorted(fields.items())), None)
    inner = [result_kind(part, inputs, told) for part in (body[2] if form == "call" else body[1:])]
    if form == "call":
        fills = {}
        for kind, other in zip(told[body[1]][0], inner):
            match(kind, other, fills)
        return put_in(told[body[1]][1], fills)
    due(inner[0] == NUMBER)
    due(inner[-2] == inner[-1])
    return inner[-1]


def match(kind, other, fills):
    """Put into `fills` what makes a told kind the other one, which has no blanks; DoesNot where nothing does."""
    if kind[0] == "blank":
        due(fills.setdefault(kind[1], other) == other)
        return
    due(kind[0] == other[0])
    if kind[0] == "number":
        return
    here, there = dict(kind[1]), dict(other[1])
    for label, inner in here.items():
        due(label in there)
        match(inner, there[label], fills)
    further = {label: there[label] for label in there if label not in here}
    due(not further if kind[2] is None else fills.setdefault(kind[2], further) == further)


def put_in(kind, fills):
    """Return a told kind with its blanks filled; each of them is."""
    if kind[0] == "number":
        return kind
    if kind[0] == "blank":
        return fills[kind[1]]
    fields = {label: put_in(inner, fills) for label, inner in kind[1]}
    if kind[2] is not None:
        fields.update(fills[kind[2]])
    return ("record", tuple(sorted(fields.items())), None)


def records(labels, kinds):
    """Return the kinds of all records of some of these labels, with fields of these kinds, without rests."""
    rows = itertools.product([None, *kinds], repeat=len(labels))
    return [("record", tuple((label, kind) for label, kind in zip(labels, row) if kind), None) for row in rows]


# All kinds without blanks that have labels a and b alone, at most 1, 2 and 3 deep.
ONE_DEEP = [NUMBER] + records("", [])
TWO_DEEP = [NUMBER] + records("ab", ONE_DEEP)
THREE_DEEP = [NUMBER] + records("ab", TWO_DEEP)


def all_inputs(many):
    """Return rows of inputs' kinds: all of some depth."""
    return list(itertools.product({1: THREE_DEEP, 2: TWO_DEEP}.get(many, ONE_DEEP), repeat=many))
