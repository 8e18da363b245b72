"""The kinds of a program found by points [9] to [13] as plainly as they can be written down.

Rests are chains of single labels, joining recurs, and nothing that was looked up is kept: slow, but near to the
document's words. It shares no code with the package, and tells what `judged` and `marked` must tell.
"""


class Clashes(Exception):
    """Two uses clash."""


class Great(Exception):
    """A kind has more knots than it may have, or is deeper."""


class Node:
    """A kind or a rest: `form` tells which, `become` what it became."""

    def __init__(self, form, **parts):
        self.form = form
        self.parts = parts
        self.become = None


def now_is(node):
    while node.become is not None:
        node = node.become
    return node


def unknown():
    return Node("unknown")


def number(use):
    return Node("number", use=use)


def end(use):
    return Node("end", use=use)


def label(name, kind, use, behind):
    return Node("label", name=name, kind=kind, use=use, behind=behind)


def record(use, rest):
    return Node("record", use=use, rest=rest)


def labels_of(kind):
    """Return the label nodes of a record by name, and what its rests come to."""
    found = {}
    rest = now_is(now_is(kind).parts["rest"])
    while rest.form == "label":
        found[rest.parts["name"]] = rest
        rest = now_is(rest.parts["behind"])
    return found, rest


def earlier(one, other):
    one.parts["use"] = other.parts["use"] = min(one.parts["use"], other.parts["use"])


def holds(kind, wanted):
    """Return whether a kind is the unknown kind, or holds the unknown kind or rest, however deep."""
    kind = now_is(kind)
    if kind is wanted:
        return True
    if kind.form != "record":
        return False
    labels, last = labels_of(kind)
    return last is wanted or any(holds(node.parts["kind"], wanted) for node in labels.values())


def clash(one, other):
    raise Clashes(min(one, other), max(one, other))


def join(one, other, now):
    one, other = now_is(one), now_is(other)
    if one is other:
        return
    if one.form == "unknown" or other.form == "unknown":
        gone, kept = (one, other) if one.form == "unknown" else (other, one)
        if kept.form == "record" and holds(kept, gone):
            clash(kept.parts["use"], now)
        gone.become = kept
    elif one.form != other.form:
        clash(one.parts["use"], other.parts["use"])
    else:
        if one.form == "record":
            join_labels(one, other, now)
            join_ends(one, other)
            join_behind(one, other, now)
        earlier(one, other)
        other.become = one


def join_labels(one, other, now):
    done = []
    while True:
        ones, others = labels_of(one)[0], labels_of(other)[0]
        left = [name for name in sorted(ones) if name in others and name not in done]
        if not left:
            return
        done.append(left[0])
        join(ones[left[0]].parts["kind"], others[left[0]].parts["kind"], now)
        earlier(ones[left[0]], others[left[0]])


def join_ends(one, other):
    (ones, last), (others, others_last) = labels_of(one), labels_of(other)
    for name in sorted(set(ones) ^ set(others)):
        lacks = others_last if name in ones else last
        if lacks.form == "end":
            clash((ones | others)[name].parts["use"], lacks.parts["use"])


def join_behind(one, other, now):
    (ones, last), (others, others_last) = labels_of(one), labels_of(other)
    if last is others_last:
        return
    if last.form == "end" and others_last.form == "end":
        earlier(last, others_last)
        others_last.become = last
        return
    behind = last if last.form == "end" else others_last if others_last.form == "end" else unknown()
    if others_last.form == "unknown":
        spell(others_last, [ones[name] for name in sorted(set(ones) - set(others))], behind, now)
    if last.form == "unknown":
        spell(last, [others[name] for name in sorted(set(others) - set(ones))], behind, now)


def spell(rest, nodes, behind, now):
    for node in nodes:
        if holds(node.parts["kind"], rest):
            clash(node.parts["use"], now)
    for node in reversed(nodes):
        behind = label(node.parts["name"], node.parts["kind"], node.parts["use"], behind)
    rest.become = behind


def inner_bodies(body):
    return {
        "number": lambda: [], "input": lambda: [], "make": lambda: [inner for _, inner in body[1]],
        "get": lambda: [body[1]], "put": lambda: [body[1], body[3]], "sum": lambda: list(body[1:]),
        "if": lambda: list(body[1:]), "call": lambda: list(body[2]),
    }[body[0]]()


def places(body):
    return [(k,) + place for k, inner in enumerate(inner_bodies(body)) for place in places(inner)] + [()]


def find(body, inputs, told, kinds):
    """Append the kinds of a body's places to `kinds`, and return that of the body itself."""
    inner = [find(part, inputs, told, kinds) for part in inner_bodies(body)]
    now = len(kinds)
    kinds.append(turn(body, inner, inputs, told, now))
    return kinds[-1]


def turn(body, inner, inputs, told, now):
    form = body[0]
    if form == "number":
        return number(now)
    if form == "input":
        return inputs[body[1]]
    if form == "make":
        rest = end(now)
        for (name, _), kind in zip(body[1], inner):
            rest = label(name, kind, now, rest)
        return record(now, rest)
    if form in ("get", "put"):
        new, rest = unknown(), unknown()
        join(inner[0], record(now, label(body[2], new, now, rest)), now)
        return new if form == "get" else record(now, label(body[2], inner[1], now, rest))
    if form == "sum":
        join(inner[0], number(now), now)
        join(inner[1], number(now), now)
        return number(now)
    if form == "if":
        join(inner[0], number(now), now)
        join(inner[1], inner[2], now)
        return inner[1]
    blanks = {}
    dues = [anew(kind, blanks, now) for kind in told[body[1]][0]]
    result = anew(told[body[1]][1], blanks, now)
    for kind, due in zip(inner, dues):
        join(kind, due, now)
    return result


def anew(kind, blanks, now):
    if kind[0] == "number":
        return number(now)
    if kind[0] == "blank":
        return blanks.setdefault(kind[1], unknown())
    rest = end(now) if kind[2] is None else blanks.setdefault(kind[2], unknown())
    for name, inner in kind[1]:
        rest = label(name, anew(inner, blanks, now), now, rest)
    return record(now, rest)


def tell(kind, numbers, knots, deep=1):
    """Return a found kind as a tuple; `knots` is a list of one number, those that may still come."""
    knots[0] -= 1
    if knots[0] < 0 or deep > 12:
        raise Great
    kind = now_is(kind)
    if kind.form == "number":
        return ("number",)
    if kind.form == "unknown":
        return ("blank", numbers.setdefault(kind, len(numbers)))
    labels, last = labels_of(kind)
    fields = tuple((name, tell(labels[name].parts["kind"], numbers, knots, deep + 1)) for name in sorted(labels))
    return ("record", fields, None if last.form == "end" else numbers.setdefault(last, len(numbers)))


def whole(program):
    """Return what `judged` must tell, or None where it's TooGreat; and the marks of those let by, None likewise."""
    told, kinds, marks = {}, [], []
    for name, many, body in program:
        inputs, found = [unknown() for _ in range(many)], []
        try:
            find(body, inputs, told, found)
        except Clashes as uses:
            one, other = uses.args
            return ("clash", kinds, places(body)[one], places(body)[other]), marks
        numbers, knots = {}, [200]
        try:
            row = [tell(kind, numbers, knots) for kind in inputs + [found[-1]]]
        except Great:
            return None, None
        told[name] = (tuple(row[:-1]), row[-1])
        kinds.append(told[name])
        try:
            if marks is not None:
                marks.append([tell(kind, numbers, [200]) for kind in found])
        except Great:
            marks = None
    return ("good", kinds), marks
