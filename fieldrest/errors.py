"""The refusals of Fieldrest, one class for each kind of them."""


class FieldError(ValueError):
    """Any refusal."""


class BadKind(FieldError):
    """What was handed in as a kind, or as a row of kinds, is none."""


class BadFill(FieldError):
    """A blank or a rest can't be filled with what was handed in for it."""


class NoDefinition(FieldError):
    """No definition has that number, or none of that many inputs."""


class TooGreat(FieldError):
    """A kind would have too many knots, or be too deep."""


class Lacks(FieldError):
    """A record was asked for a field that it lacks."""


class NoNumber(FieldError):
    """A record stands where a number is due."""


class NoRecord(FieldError):
    """A number was asked for a field."""
