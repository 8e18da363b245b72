"""Tests of `marked` in fieldrest/judging.py."""

import copy
import unittest

from fieldrest.errors import NoDefinition, TooGreat
from fieldrest.forms import places_of
from fieldrest.judging import judged, marked
from tests.shapes import (
    EMPTY, I, J, K, NUMBER, ONE, add, blank, call, deep, either, get, labels, make, nest, put, record, seq, wide,
)

SAME = ("same", 1, I)
CLASH = ("clash", 0, get(ONE, "a"))


def marks_of(many, body, *ahead):
    """Return the marks of a definition with this body, behind those ahead."""
    return marked([*ahead, ("main", many, body)], len(ahead))


class MarksTest(unittest.TestCase):
    """The kinds of all places in the order of point 4, each rule of point 8."""

    def test_number(self):
        self.assertEqual(marks_of(2, ONE), [NUMBER])

    def test_input(self):
        self.assertEqual(marks_of(2, J), [blank(1)])

    def test_make(self):
        self.assertEqual(marks_of(0, EMPTY), [record()])
        self.assertEqual(marks_of(1, make(b=ONE, a=I)), [NUMBER, blank(0), record(a=blank(0), b=NUMBER)])

    def test_get(self):
        self.assertEqual(marks_of(1, get(I, "a")), [record(1, a=blank(0)), blank(0)])

    def test_put(self):
        due = [record(1, a=blank(0)), NUMBER, record(1, a=NUMBER)]
        self.assertEqual(marks_of(1, put(I, "a", ONE)), due)

    def test_sum(self):
        self.assertEqual(marks_of(1, add(I, ONE)), [NUMBER] * 3)

    def test_if(self):
        self.assertEqual(marks_of(2, either(I, J)), [NUMBER, blank(0), blank(0), blank(0)])
        self.assertEqual(marks_of(2, either(I, EMPTY, J)), [NUMBER, record(), record(), record()])

    def test_call(self):
        self.assertEqual(marks_of(1, call("same", I), SAME), [blank(0), blank(0)])
        self.assertEqual(marks_of(0, call("same", EMPTY), SAME), [record(), record()])
        self.assertEqual(marks_of(0, call("none"), ("none", 0, make(a=ONE))), [record(a=NUMBER)])

    def test_in_the_order_of_places(self):
        body = either(get(make(b=EMPTY, a=add(ONE, ONE)), "b"), EMPTY, get(make(z=ONE), "z"))
        inner = record(a=NUMBER, b=record())
        due = [NUMBER, record(z=NUMBER), NUMBER, record(), NUMBER, NUMBER, NUMBER, inner, record(), record(), record()]
        self.assertEqual(marks_of(0, body), due)
        self.assertEqual(len(places_of(body)), len(due))

    def test_kinds_as_they_are_at_last(self):
        # What is found at later places tells of the earlier ones, too.
        body = seq(I, add(get(I, "b"), ONE), either(I, make(a=EMPTY, b=ONE)))
        kind = record(a=record(), b=NUMBER)
        row = record(a=kind, b=NUMBER, c=kind)
        self.assertEqual(marks_of(1, body), [kind, kind, NUMBER, NUMBER, NUMBER, NUMBER, kind, record(), NUMBER, kind,
                                             kind, row, kind])

    def test_the_marks_of_each_definition(self):
        program = [SAME, ("ask", 1, get(I, "a")), ("five", 0, call("same", ONE)), CLASH]
        self.assertEqual(marked(program, 0), [blank(0)])
        self.assertEqual(marked(program, 1), [record(1, a=blank(0)), blank(0)])
        self.assertEqual(marked(program, 2), [NUMBER, NUMBER])

    def test_a_list(self):
        told = marks_of(1, get(I, "a"))
        self.assertEqual([type(part) for part in [told, *told]], [list, tuple, tuple])

    def test_many_places(self):
        body = nest(lambda body: add(body, ONE), 1000, I)
        self.assertEqual(marks_of(1, body), [NUMBER] * 2001)


class BlanksTest(unittest.TestCase):
    """How blanks are numbered: those of the definition's kind as there, others as they come."""

    def test_those_of_the_kind(self):
        body = make(a=K, b=J, c=I)
        self.assertEqual(marks_of(3, body), [blank(2), blank(1), blank(0), record(a=blank(2), b=blank(1), c=blank(0))])

    def test_a_rest_of_the_kind(self):
        body = seq(get(I, "b"), put(I, "a", ONE))
        row = record(2, a=blank(0), b=blank(1))
        after = record(2, a=NUMBER, b=blank(1))
        self.assertEqual(marks_of(1, body), [row, blank(1), row, NUMBER, after, record(a=blank(1), b=after), after])

    def test_of_what_is_neither_asked_nor_told(self):
        body = get(make(a=ONE, b=make(x=J, y=put(I, "a", ONE))), "a")
        kind, after = record(1, a=blank(0)), record(1, a=NUMBER)
        row = record(x=blank(2), y=after)
        due = [NUMBER, blank(2), kind, NUMBER, after, row, record(a=NUMBER, b=row), NUMBER]
        self.assertEqual(marks_of(2, body), due)

    def test_none_but_those_of_the_kind_come_up(self):
        # All that is unknown comes from the inputs, so the told kind has it and there are no others.
        program = [SAME, ("main", 2, seq(get(I, "a"), call("same", call("same", get(J, "b"))), either(I, J), ONE))]
        kind = judged(program)[1][1]
        self.assertEqual(kind[0], (record(2, a=blank(0), b=blank(1)),) * 2)
        self.assertTrue(all(n < 3 for kind in marked(program, 1) for n in numbers_in(kind)))


def numbers_in(kind):
    """Return the numbers of blanks and rests in a kind as they come."""
    if kind[0] == "blank":
        return [kind[1]]
    if kind[0] == "number":
        return []
    return [n for _, inner in kind[1] for n in numbers_in(inner)] + ([] if kind[2] is None else [kind[2]])


class NoDefinitionTest(unittest.TestCase):
    def refuses(self, program, number):
        with self.assertRaises(NoDefinition) as held:
            marked(program, number)
        self.assertIs(type(held.exception), NoDefinition)

    def test_no_such_number(self):
        self.refuses([], 0)
        self.refuses([SAME], 1)
        self.refuses([SAME], -1)
        self.refuses([SAME], 10 ** 20)

    def test_not_let_by(self):
        program = [SAME, CLASH, ("five", 0, ONE)]
        self.assertEqual(marked(program, 0), [blank(0)])
        for number in (1, 2, 3, -1, -3):
            self.refuses(program, number)
        self.refuses([CLASH], 0)
        self.refuses([CLASH, SAME], 1)


class TooGreatTest(unittest.TestCase):
    def refuses(self, program, number):
        with self.assertRaises(TooGreat) as held:
            marked(program, number)
        self.assertIs(type(held.exception), TooGreat)

    def hidden(self, name, body):
        """Return a definition that comes to a number, and has this body at another place."""
        return (name, 0, get(make(a=ONE, b=body), "a"))

    def test_just_within(self):
        # Each mark by itself: a record of 197 fields, and one more around it and a number.
        inner = ("make", tuple((label, ONE) for label in labels(197)))
        due = [wide(197), record(a=NUMBER, b=wide(197)), NUMBER]
        self.assertEqual(marked([self.hidden("main", inner)], 0)[-3:], due)
        inner = nest(lambda body: make(a=body), 10, ONE)
        self.assertEqual(marked([self.hidden("main", inner)], 0)[-3:], [deep(10), record(a=NUMBER, b=deep(10)), NUMBER])

    def test_a_mark(self):
        for name, body in {
            "knots": ("make", tuple((label, ONE) for label in labels(198))),
            "knots, more": ("make", tuple((label, ONE) for label in labels(500))),
            "depth": nest(lambda body: make(a=body), 11, ONE),
            "depth, more": nest(lambda body: make(a=body), 1500, ONE),
        }.items():
            with self.subTest(name=name):
                great = self.hidden("great", body)
                self.assertEqual(judged([great]), ("good", [((), NUMBER)]))
                self.refuses([great], 0)

    def test_a_mark_of_whichever_definition(self):
        great = self.hidden("great", nest(lambda body: make(a=body), 11, ONE))
        five = ("five", 0, ONE)
        self.assertEqual(judged([SAME, great, five])[0], "good")
        for number in (0, 1, 2, 3, -1):
            self.refuses([SAME, great, five], number)
            self.refuses([SAME, great, CLASH, five], number)
        self.assertEqual(marked([SAME, CLASH, great], 0), [blank(0)])

    def test_the_told_kinds_of_whichever_definition(self):
        great = ("great", 0, nest(lambda body: make(a=body), 12, ONE))
        for number in (0, 1, 2, 3, -1):
            self.refuses([SAME, great, ("five", 0, ONE)], number)
            self.refuses([SAME, great, CLASH], number)
        self.assertEqual(marked([SAME, CLASH, great], 0), [blank(0)])
        with self.assertRaises(NoDefinition):
            marked([SAME, CLASH, great], 2)

    def test_marks_far_greater_than_can_be_counted(self):
        double = ("double", 1, make(a=I, b=I))
        self.refuses([double, ("main", 1, get(make(a=ONE, b=nest(lambda body: call("double", body), 100, I)), "a"))], 0)


class HeldApartTest(unittest.TestCase):
    """What is handed in stays as it was, and may change behind the call; what is told is the asker's own."""

    def test_all_of_it(self):
        program = [SAME, ("ask", 1, get(I, "a"))]
        mine = copy.deepcopy(program)
        due = [record(1, a=blank(0)), blank(0)]
        told = marked(mine, 1)
        self.assertEqual(mine, program)
        again = marked(mine, 1)
        told[0] = None
        told.append(NUMBER)
        mine[1] = SAME
        del mine[0]
        self.assertEqual(again, due)
        self.assertEqual(marked(program, 1), due)
        self.assertEqual(judged(program)[1][1], ((record(1, a=blank(0)),), blank(0)))


if __name__ == "__main__":
    unittest.main()
