"""The form of a kind, kinds with their blanks filled, and how one row of kinds fits another."""

from fieldrest.errors import BadFill, BadKind, TooGreat

MOST_KNOTS = 200
MOST_DEEP = 12


def is_kind(thing):
    """Return whether a thing is a kind."""
    return has_form(thing, MOST_KNOTS) and standing([thing]) is not None


def has_form(thing, most):
    """Return whether a thing has the form of a kind, wherever its numbers stand.

    It has at most so many knots, or any number of them where that is None.
    """
    waiting = [(thing, 1)]
    knots = 0
    while waiting:
        here, deep = waiting.pop()
        knots += 1
        # Looked at for each knot, as what is handed in may be far greater than a kind.
        if most is not None and knots > most:
            return False
        if deep > MOST_DEEP or not is_knot(here):
            return False
        waiting.extend([(inner, deep + 1) for inner in kinds_within(here)])
    return True


def is_knot(thing):
    """Return whether a thing has the form of a kind, whatever stands where the kinds within it should."""
    if not isinstance(thing, tuple) or len(thing) == 0:
        return False
    if thing[0] == "number":
        return len(thing) == 1
    if thing[0] == "blank":
        return len(thing) == 2 and is_blank_number(thing[1])
    if thing[0] == "record" and len(thing) == 3:
        return are_fields(thing[1]) and (thing[2] is None or is_blank_number(thing[2]))
    return False


def is_blank_number(thing):
    """Return whether a thing is the number of a blank."""
    return isinstance(thing, int) and not isinstance(thing, bool) and thing >= 0


def are_fields(thing):
    """Return whether a thing is a tuple of pairs whose labels are words and rise."""
    if not isinstance(thing, tuple):
        return False
    labels = []
    for pair in thing:
        if not isinstance(pair, tuple) or len(pair) != 2 or not is_word(pair[0]):
            return False
        if labels and pair[0] <= labels[-1]:
            return False
        labels.append(pair[0])
    return True


def is_word(thing):
    """Return whether a thing is a text of 1 to 8 letters a to z."""
    return isinstance(thing, str) and 1 <= len(thing) <= 8 and all("a" <= sign <= "z" for sign in thing)


def kinds_within(kind):
    """Return the kinds right within a kind."""
    return [inner for label, inner in kind[1]] if kind[0] == "record" else []


def standing(kinds):
    """Return a dict from each number that stands in these kinds to where it stands.

    For a rest that is the tuple of the labels ahead of it, for a blank kind None. Return None
    where a number stands otherwise than in one kind it may.
    """
    found = {}
    waiting = list(kinds)
    while waiting:
        kind = waiting.pop()
        waiting.extend(kinds_within(kind))
        number = number_right_in(kind)
        if number is not None:
            ahead = tuple([label for label, inner in kind[1]]) if kind[0] == "record" else None
            if number in found and found[number] != ahead:
                return None
            found[number] = ahead
    return found


def number_right_in(kind):
    """Return the number of a blank kind, or of the rest of a record; None where there is none."""
    if kind[0] == "blank":
        return kind[1]
    return kind[2] if kind[0] == "record" else None


def are_too_great(kinds):
    """Return whether kinds have more knots together than a kind may have, or one of them is too deep."""
    waiting = [(kind, 1) for kind in kinds]
    knots = 0
    while waiting:
        kind, deep = waiting.pop()
        knots += 1
        if knots > MOST_KNOTS or deep > MOST_DEEP:
            return True
        waiting.extend([(inner, deep + 1) for inner in kinds_within(kind)])
    return False


def filled(kind, fills):
    """Return a kind with its blanks filled; numbers that don't stand in it are passed over."""
    if not is_kind(kind):
        raise BadKind("what is to be filled is no kind")
    for number, ahead in standing([kind]).items():
        if number in fills and not may_fill(fills[number], ahead):
            raise BadFill("a fill hasn't the form that is due, or a label that stands ahead")
    whole = with_fills(kind, fills)
    if are_too_great([whole]):
        raise TooGreat("what comes has too many knots, or is too deep")
    if standing([whole]) is None:
        raise BadFill("a number would stand otherwise than in a kind it may")
    return whole


def may_fill(fill, ahead):
    """Return whether a fill has the form that is due behind these labels, or of a blank kind's where they are None."""
    if ahead is None:
        return has_form(fill, None)
    if not isinstance(fill, tuple) or not has_form(("record",) + fill, None):
        return False
    return not any(label in ahead for label, inner in fill[0])


def with_fills(kind, fills):
    """Return a kind with these fills where its blanks stand."""
    if kind[0] == "number":
        return kind
    if kind[0] == "blank":
        return fills.get(kind[1], kind)
    fields = [(label, with_fills(inner, fills)) for label, inner in kind[1]]
    rest = kind[2]
    if rest is not None and rest in fills:
        further, rest = fills[rest]
        fields.extend(further)
    return ("record", tuple(sorted(fields, key=lambda field: field[0])), rest)


def fits(kinds, others):
    """Return the fills by which each of these kinds is the other one at its place, or None."""
    if not is_row(kinds) or not is_row(others):
        raise BadKind("the kinds of a row aren't such as may stand together")
    if len(kinds) != len(others):
        return None
    fills = {}
    waiting = list(zip(kinds, others))
    while waiting:
        kind, other = waiting.pop()
        if not are_alike(kind, other):
            return None
        number = number_right_in(kind)
        if number is not None:
            fill = fill_for(kind, other)
            if number in fills and fills[number] != fill:
                return None
            fills[number] = fill
        waiting.extend(inner_pairs(kind, other))
    return fills


def is_row(kinds):
    """Return whether things are kinds whose numbers and knots are together as those of one kind may be."""
    for thing in kinds:
        if not is_kind(thing):
            return False
    return standing(kinds) is not None and not are_too_great(kinds)


def are_alike(kind, other):
    """Return whether a kind may be another one with blanks filled, kinds within them not looked at."""
    if kind[0] != "record" or other[0] != "record":
        return kind[0] in ("blank", other[0])
    theirs = dict(other[1])
    for label, inner in kind[1]:
        if label not in theirs:
            return False
    return kind[2] is not None or (len(kind[1]) == len(other[1]) and other[2] is None)


def fill_for(kind, other):
    """Return what fills the number that stands right in a kind, so that it is another one that is alike."""
    if kind[0] == "blank":
        return other
    ahead = dict(kind[1])
    return (tuple([field for field in other[1] if field[0] not in ahead]), other[2])


def inner_pairs(kind, other):
    """Return pairs of the kinds right within a kind and those at the same labels of the other one."""
    if kind[0] != "record":
        return []
    theirs = dict(other[1])
    return [(inner, theirs[label]) for label, inner in kind[1]]
