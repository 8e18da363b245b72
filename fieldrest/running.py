"""Values, whether they are of a kind, and the running of definitions."""

from fieldrest.errors import Lacks, NoDefinition, NoNumber, NoRecord
from fieldrest.forms import bodies_within


def is_of(value, kind):
    """Return whether a value is one of a kind."""
    waiting = [(value, kind)]
    while waiting:
        here, due = waiting.pop()
        if due[0] == "number" and not is_number(here):
            return False
        if due[0] == "record":
            if is_number(here) or not has_labels(dict(here), due):
                return False
            fields = dict(here)
            waiting.extend([(fields[label], inner) for label, inner in due[1]])
    return True


def is_number(value):
    """Return whether a value is a number; if not, it is a record."""
    return isinstance(value, int) and not isinstance(value, bool)


def has_labels(fields, kind):
    """Return whether fields have the labels of a record's kind, and others only where that has a rest."""
    for label, inner in kind[1]:
        if label not in fields:
            return False
    return kind[2] is not None or len(fields) == len(kind[1])


def run(program, number, values):
    """Return what a definition comes to, of a list of values for its inputs."""
    if not 0 <= number < len(program):
        raise NoDefinition("no definition has that number")
    _, many, body = program[number]
    if len(values) != many:
        raise NoDefinition("no definition of that number has so many inputs")
    work = Work({name: inner for name, inputs, inner in program})
    return work.work_out(body, values)


def number_in(value):
    """Return a value that is due to be a number."""
    if not is_number(value):
        raise NoNumber("a record stands where a number is due")
    return value


def field_in(value, label):
    """Return what a value that is due to be a record has at a label."""
    if is_number(value):
        raise NoRecord("a number is asked for a field")
    fields = dict(value)
    if label not in fields:
        raise Lacks("a record is asked for a field that it lacks")
    return fields[label]


class Work:
    """Works out bodies, without recursion, as callers may go beyond the depth that a body has at most.

    A step is a tuple of what to do, a body, and the values of the inputs there. What to do:
    "begin" the body, "look" at what its first body came to, or "finish" it behind all its bodies.
    """

    def __init__(self, definitions):
        # The bodies of the definitions by their names.
        self.definitions = definitions
        # What is still to be done, the next step last.
        self.steps = []
        # What bodies came to whose outer bodies still wait for it, the newest last.
        self.worked = []

    def work_out(self, body, values):
        """Return what a body comes to with these values of its inputs."""
        self.steps.append(("begin", body, values))
        while self.steps:
            what, here, inputs = self.steps.pop()
            if what == "begin":
                self.begin(here, inputs)
            elif what == "look":
                self.look(here)
            else:
                self.finish(here, inputs)
        return self.worked.pop()

    def begin(self, body, inputs):
        """Work out a body without bodies in it, or note the steps for one with such."""
        form = body[0]
        if form == "number":
            self.worked.append(body[1])
        elif form == "input":
            self.worked.append(inputs[body[1]])
        else:
            steps = [("begin", inner, inputs) for inner in bodies_within(body)]
            if form == "if":
                steps = steps[:1]
            elif form in ("put", "sum"):
                steps.insert(1, ("look", body, inputs))
            steps.append(("finish", body, inputs))
            self.steps.extend(steps[::-1])

    def look(self, body):
        """Refuse what the first body of a put or a sum came to, where it must be."""
        if body[0] == "put":
            field_in(self.worked[-1], body[2])
        else:
            number_in(self.worked[-1])

    def finish(self, body, inputs):
        """Work out a body whose bodies within it are worked out, or of an if just the first one."""
        form = body[0]
        if form == "if":
            chosen = body[2] if number_in(self.worked.pop()) != 0 else body[3]
            self.steps.append(("begin", chosen, inputs))
            return
        inner = self.take(len(bodies_within(body)))
        if form == "call":
            self.steps.append(("begin", self.definitions[body[1]], inner))
        elif form == "make":
            labels = [field[0] for field in body[1]]
            self.worked.append(record_of(dict(zip(labels, inner))))
        elif form == "get":
            self.worked.append(field_in(inner[0], body[2]))
        elif form == "put":
            fields = dict(inner[0])
            fields[body[2]] = inner[1]
            self.worked.append(record_of(fields))
        else:
            self.worked.append(inner[0] + number_in(inner[1]))

    def take(self, many):
        """Return so many of the newest values in order, and keep them no longer."""
        start = len(self.worked) - many
        taken = self.worked[start:]
        del self.worked[start:]
        return taken


def record_of(fields):
    """Return the record of these fields, a dict from labels."""
    return tuple([(label, fields[label]) for label in sorted(fields)])
