"""Kinds while they are found, and the joining of two of them.

A use is told by a number: that of the place at which it was made, by the order of places.
"""


class Clash(Exception):
    """Two uses that clash, the earlier one first."""

    def __init__(self, use, other):
        self.first = min(use, other)
        self.second = max(use, other)


class Kind:
    """A kind that is unknown, a number with a use, or a record with a use and a rest."""

    def __init__(self, form, use, rest):
        self.form = form
        self.use = use
        self.rest = rest
        # The kind that this one has become or is one with, where there is such a kind.
        self.became = None


class Rest:
    """A rest that is unknown (its end is None), an end with a use, or fields and a rest behind them."""

    def __init__(self, end):
        self.end = end
        self.fields = {}
        self.behind = None

    def become(self, fields, behind):
        """Be from now on these fields (a dict from labels), then the rest behind them."""
        self.fields = fields
        self.behind = behind


class Field:
    """The kind and the use of a label."""

    def __init__(self, kind, use):
        self.kind = kind
        self.use = use


def unknown_kind():
    """Return a new unknown kind."""
    return Kind("unknown", None, None)


def number_kind(use):
    """Return a new number."""
    return Kind("number", use, None)


def record_kind(kinds, behind, use):
    """Return a new record of these kinds (a dict from labels), then the rest behind them."""
    rest = Rest(None)
    rest.become({label: Field(kind, use) for label, kind in kinds.items()}, behind)
    return Kind("record", use, rest)


def root_of(kind):
    """Return the kind that a kind has become by now."""
    root = kind
    while root.became is not None:
        root = root.became
    # All kinds on the way point straight to the root, or long ways would be gone again and again.
    while kind != root:
        ahead = kind.became
        kind.became = root
        kind = ahead
    return root


def row_of(record):
    """Return the fields of a record (a dict from labels), and what its rests come to: unknown or an end."""
    fields = {}
    rest = record.rest
    while rest.behind is not None:
        fields.update(rest.fields)
        rest = rest.behind
    return fields, rest


def holds(kind, wanted, seen):
    """Return whether a kind is or holds an unknown kind, or holds an unknown rest.

    Of what is in `seen` it is known that it doesn't; what turns out so is put there.
    """
    waiting = [kind]
    while waiting:
        here = root_of(waiting.pop())
        if here == wanted:
            return True
        if here.form == "record" and here not in seen:
            seen[here] = True
            fields, last = row_of(here)
            if last == wanted:
                return True
            waiting.extend([field.kind for field in fields.values()])
    return False


class Pair:
    """Two records, the one and the other, whose labels are being joined."""

    def __init__(self, one, other):
        self.one = one
        self.other = other
        # The labels that are done, and the two fields of the last one of them.
        self.done = {}
        self.joined = None
        self.look()

    def look(self):
        """Find the labels that both have and that aren't done; the first one by the alphabet comes last."""
        self.fields, self.last = row_of(self.one)
        self.others, self.others_last = row_of(self.other)
        both = [label for label in self.fields if label in self.others and label not in self.done]
        self.left = sorted(both, reverse=True)

    def next_kinds(self):
        """Return the two kinds of the next label that both have, or None behind the last one."""
        if self.joined is not None:
            field, other = self.joined
            field.use = min(field.use, other.use)
            other.use = field.use
        # The joining of kinds within may have told further labels of these two records.
        if self.last.behind is not None or self.others_last.behind is not None:
            self.look()
        if not self.left:
            return None
        label = self.left.pop()
        self.done[label] = True
        self.joined = (self.fields[label], self.others[label])
        return self.fields[label].kind, self.others[label].kind

    def be_one(self, now):
        """Make one record of the two, whose labels are done."""
        one, other = self.one, self.other
        join_rests(one, other, now)
        other.became = one
        one.use = min(one.use, other.use)


def join_kinds(kind, other, now):
    """Join the one kind with the other at the place of the use `now`; Clash where they can't be one."""
    # Without recursion, as kinds that are being found may be deeper than told ones.
    pairs = join_outside(kind, other, now)
    while pairs:
        inner = pairs[-1].next_kinds()
        if inner is None:
            pairs.pop().be_one(now)
        else:
            pairs.extend(join_outside(inner[0], inner[1], now))


def join_outside(kind, other, now):
    """Join two kinds, but return a list of their Pair where they are two records: that is still to be done."""
    one, another = root_of(kind), root_of(other)
    if one == another:
        return []
    if one.form == "unknown":
        make_known(one, another, now)
    elif another.form == "unknown":
        make_known(another, one, now)
    elif one.form != another.form:
        raise Clash(one.use, another.use)
    elif one.form == "record":
        return [Pair(one, another)]
    else:
        another.became = one
        one.use = min(one.use, another.use)
    return []


def make_known(unknown, kind, now):
    """Make an unknown kind another kind."""
    if holds(kind, unknown, {}):
        raise Clash(kind.use, now)
    unknown.became = kind


def join_rests(one, other, now):
    """Join what stands behind the labels that two records both have."""
    fields, last = row_of(one)
    others, others_last = row_of(other)
    alone = {label: fields[label] for label in sorted(fields) if label not in others}
    others_alone = {label: others[label] for label in sorted(others) if label not in fields}
    refuse_behind_ends(alone, last, others_alone, others_last)
    if last == others_last:
        return
    if last.end is not None and others_last.end is not None:
        last.end = min(last.end, others_last.end)
        others_last.become({}, last)
        return
    behind = Rest(None)
    for rest in (last, others_last):
        if rest.end is not None:
            behind = rest
    if others_last.end is None:
        tell_labels(others_last, alone, behind, now)
    if last.end is None:
        tell_labels(last, others_alone, behind, now)


def refuse_behind_ends(alone, last, others_alone, others_last):
    """Clash at the first label that one record alone has, where the other's rests come to an end."""
    for label in sorted([*alone, *others_alone]):
        if label in alone and others_last.end is not None:
            raise Clash(alone[label].use, others_last.end)
        if label in others_alone and last.end is not None:
            raise Clash(others_alone[label].use, last.end)


def tell_labels(rest, fields, behind, now):
    """Make an unknown rest these fields, whose labels rise, and then the rest behind them."""
    seen = {}
    for field in fields.values():
        if holds(field.kind, rest, seen):
            raise Clash(field.use, now)
    rest.become({label: Field(field.kind, field.use) for label, field in fields.items()}, behind)
