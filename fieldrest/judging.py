"""Which definitions are let by, with which kinds, and how the places of their bodies are marked."""

from fieldrest.errors import NoDefinition, TooGreat
from fieldrest.forms import at_place, bodies_within, places_of
from fieldrest.joining import Clash, Rest, join_kinds, number_kind, record_kind, root_of, row_of, unknown_kind
from fieldrest.kinds import MOST_DEEP, MOST_KNOTS


def judged(program):
    """Return ("good", kinds), or ("clash", kinds, one, other): the kinds told ahead of it, and two places."""
    passed, clash = let_by(program)
    kinds = [definition.kind for definition in passed]
    if clash is None:
        return ("good", kinds)
    return ("clash", kinds, clash[0], clash[1])


def marked(program, number):
    """Return the kinds of all places of a definition that is let by, in order."""
    passed, _ = let_by(program)
    # All of them, as a mark that is too great is refused of whichever definition.
    marks = [definition.marks() for definition in passed]
    if not 0 <= number < len(marks):
        raise NoDefinition("no definition of that number is let by")
    return marks[number]


class LetBy:
    """A definition that is let by: its told kind, and what was found of its places."""

    def __init__(self, inputs, places):
        self.places = places
        self.teller = Teller()
        kinds = self.teller.tell([*inputs, places[-1]])
        self.kind = (tuple(kinds[:-1]), kinds[-1])

    def marks(self):
        """Return the kinds of all places; blanks that don't stand in the told kind have the next numbers."""
        return [self.teller.tell([kind])[0] for kind in self.places]


class Teller:
    """Tells kinds that were found, with numbers for the blanks as these first come."""

    def __init__(self):
        self.numbers = {}
        self.knots = 0

    def tell(self, kinds):
        """Return the list of these kinds as they are told; TooGreat of more knots together, or of a deeper one."""
        self.knots = 0
        return [self.told(kind, 1) for kind in kinds]

    def told(self, kind, deep):
        """Return a kind, so deep within another one, as it is told."""
        self.knots += 1
        # Looked at for each knot, as the kind may be far greater than can be told.
        if self.knots > MOST_KNOTS or deep > MOST_DEEP:
            raise TooGreat("a kind has too many knots, or is too deep")
        here = root_of(kind)
        if here.form == "number":
            return ("number",)
        if here.form == "unknown":
            return ("blank", self.number_of(here))
        row, last = row_of(here)
        fields = [(label, self.told(row[label].kind, deep + 1)) for label in sorted(row)]
        rest = self.number_of(last) if last.end is None else None
        return ("record", tuple(fields), rest)

    def number_of(self, blank):
        """Return the number of an unknown kind or rest."""
        if blank not in self.numbers:
            self.numbers[blank] = len(self.numbers)
        return self.numbers[blank]


def let_by(program):
    """Return the list of those that are let by, and the two places that clash behind them, or None."""
    passed = []
    told = {}
    for name, many, body in program:
        inputs = [unknown_kind() for k in range(many)]
        try:
            places = kinds_of_places(body, inputs, told)
        except Clash as clash:
            order = places_of(body)
            return passed, (order[clash.first], order[clash.second])
        definition = LetBy(inputs, places)
        told[name] = definition.kind
        passed.append(definition)
    return passed, None


def kinds_of_places(body, inputs, told):
    """Return the list of the kinds of a body's places in order; Clash where two uses clash.

    `told` is a dict from the names of the definitions ahead to their told kinds.
    """
    kinds = {}
    for now, place in enumerate(places_of(body)):
        here = at_place(body, place)
        inner = [kinds[place + (k,)] for k in range(len(bodies_within(here)))]
        if here[0] == "input":
            kinds[place] = inputs[here[1]]
        elif here[0] == "call":
            kinds[place] = kind_of_call(told[here[1]], inner, now)
        else:
            kinds[place] = kind_of_form(here, inner, now)
    return list(kinds.values())


def kind_of_form(body, inner, now):
    """Return the kind of a body that is no input and no call, given the kinds of the bodies right within it."""
    form = body[0]
    if form == "number":
        return number_kind(now)
    if form == "make":
        labels = [field[0] for field in body[1]]
        return record_kind(dict(zip(labels, inner)), Rest(now), now)
    if form == "get":
        kind, _ = ask(inner[0], body[2], now)
        return kind
    if form == "put":
        _, rest = ask(inner[0], body[2], now)
        return record_kind({body[2]: inner[1]}, rest, now)
    join_kinds(inner[0], number_kind(now), now)
    if form == "sum":
        join_kinds(inner[1], number_kind(now), now)
        return number_kind(now)
    join_kinds(inner[1], inner[2], now)
    return inner[1]


def ask(kind, label, now):
    """Join a kind with a new record of a label; return the new kind at the label and the new rest behind it."""
    asked, rest = unknown_kind(), Rest(None)
    join_kinds(kind, record_kind({label: asked}, rest, now), now)
    return asked, rest


def kind_of_call(told, inner, now):
    """Return the kind of a call, given the told kind of what is called and the kinds of the call's bodies."""
    blanks = {}
    inputs = [made_anew(kind, blanks, now) for kind in told[0]]
    result = made_anew(told[1], blanks, now)
    for kind, due in zip(inner, inputs):
        join_kinds(kind, due, now)
    return result


def made_anew(kind, blanks, now):
    """Return a told kind as a new one; `blanks` has the unknown kinds and rests for the numbers that have come."""
    if kind[0] == "number":
        return number_kind(now)
    if kind[0] == "blank":
        if kind[1] not in blanks:
            blanks[kind[1]] = unknown_kind()
        return blanks[kind[1]]
    kinds = {label: made_anew(inner, blanks, now) for label, inner in kind[1]}
    rest = kind[2]
    if rest is None:
        return record_kind(kinds, Rest(now), now)
    if rest not in blanks:
        blanks[rest] = Rest(None)
    return record_kind(kinds, blanks[rest], now)
