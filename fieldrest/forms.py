"""The forms of a body, and the places within it."""


def bodies_within(body):
    """Return the bodies right within a body, each at the index that is its number."""
    form = body[0]
    if form == "make":
        return [field[1] for field in body[1]]
    if form == "get":
        return [body[1]]
    if form == "put":
        return [body[1], body[3]]
    if form in ("sum", "if"):
        return list(body[1:])
    if form == "call":
        return list(body[2])
    return []


def places_of(body):
    """Return the list of a body's places, each behind all places within it."""
    # Without recursion, as callers may go beyond the depth that a body has at most.
    waiting = [((), body)]
    backwards = []
    while waiting:
        place, here = waiting.pop()
        # Each body comes ahead of those within it, the last of these first: the order from its end.
        backwards.append(place)
        for number, inner in enumerate(bodies_within(here)):
            waiting.append((place + (number,), inner))
    return backwards[::-1]


def at_place(body, place):
    """Return the body that stands at a place of a body."""
    here = body
    for number in place:
        here = bodies_within(here)[number]
    return here
