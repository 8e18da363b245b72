"""Tests of `judged` in fieldrest/judging.py."""

import copy
import unittest

from fieldrest.errors import TooGreat
from fieldrest.judging import judged
from tests.shapes import (
    EMPTY, I, J, K, NUMBER, ONE, add, blank, call, deep, either, get, labels, make, nest, put, record, seq, wide,
)

SAME = ("same", 1, I)
CHOICE = ("choice", 2, either(I, J))


def kind_of(many, body, *ahead):
    """Return the kind that is told of a definition with this body, behind those ahead."""
    told = judged([*ahead, ("main", many, body)])
    assert told[0] == "good" and len(told) == 2 and len(told[1]) == len(ahead) + 1, told
    return told[1][-1]


class KindsTest(unittest.TestCase):
    """Point 8, rule by rule, and the numbers of point 7."""

    def told(self, many, body, inputs, result, *ahead):
        self.assertEqual(kind_of(many, body, *ahead), (tuple(inputs), result))

    def test_no_definitions(self):
        self.assertEqual(judged([]), ("good", []))

    def test_number(self):
        self.told(0, ("number", 7), [], NUMBER)
        self.told(2, ("number", -10 ** 12), [blank(0), blank(1)], NUMBER)

    def test_input(self):
        self.told(1, I, [blank(0)], blank(0))
        self.told(4, K, [blank(0), blank(1), blank(2), blank(3)], blank(2))

    def test_make(self):
        self.told(0, EMPTY, [], record())
        self.told(2, make(b=J, a=ONE, c=EMPTY), [blank(0), blank(1)], record(a=NUMBER, b=blank(1), c=record()))
        self.told(1, make(a=make(a=I)), [blank(0)], record(a=record(a=blank(0))))

    def test_get(self):
        self.told(1, get(I, "a"), [record(1, a=blank(0))], blank(0))
        self.told(0, get(make(b=ONE, a=EMPTY), "a"), [], record())
        self.told(1, get(get(I, "b"), "a"), [record(2, b=record(1, a=blank(0)))], blank(0))

    def test_put(self):
        self.told(1, put(I, "a", ONE), [record(1, a=blank(0))], record(1, a=NUMBER))
        self.told(2, put(I, "a", J), [record(1, a=blank(0)), blank(2)], record(1, a=blank(2)))
        self.told(0, put(make(a=ONE, b=ONE), "a", EMPTY), [], record(a=record(), b=NUMBER))
        self.told(1, put(I, "a", I), [record(1, a=blank(0))], record(1, a=record(1, a=blank(0))))
        self.told(1, put(put(I, "b", ONE), "a", EMPTY), [record(2, a=blank(0), b=blank(1))],
                  record(2, a=record(), b=NUMBER))

    def test_sum(self):
        self.told(2, add(I, J), [NUMBER, NUMBER], NUMBER)
        self.told(2, add(get(I, "a"), get(J, "b")), [record(0, a=NUMBER), record(1, b=NUMBER)], NUMBER)

    def test_if(self):
        self.told(3, either(J, K, I), [NUMBER, blank(0), blank(0)], blank(0))
        self.told(1, either(make(a=I), make(a=ONE)), [NUMBER], record(a=NUMBER))
        self.told(2, either(get(I, "a"), get(J, "b")), [record(1, a=blank(0)), record(2, b=blank(0))], blank(0))
        self.told(2, either(put(I, "a", ONE), put(J, "b", EMPTY)),
                  [record(1, a=blank(0), b=record()), record(1, a=NUMBER, b=blank(2))], record(1, a=NUMBER, b=record()))

    def test_if_with_records_asked_for_unlike_labels(self):
        body = seq(get(I, "a"), get(J, "b"), either(I, J))
        kind = record(2, a=blank(0), b=blank(1))
        self.told(2, body, [kind, kind], kind)

    def test_if_with_records_that_share_a_rest(self):
        kind = record(1, a=NUMBER, b=blank(0))
        self.told(1, either(I, put(put(I, "b", get(I, "b")), "a", ONE)), [kind], kind)
        self.told(1, either(put(put(I, "b", get(I, "b")), "a", ONE), I), [kind], kind)

    def test_if_with_records_that_share_an_end(self):
        kind = record(a=NUMBER, b=record())
        body = make(a=ONE, b=EMPTY)
        self.told(1, seq(either(I, body), either(I, put(I, "a", ONE))), [kind], kind)
        self.told(1, seq(either(I, body), either(put(I, "a", ONE), I), get(I, "b")), [kind], record())
        self.told(1, either(put(either(I, body), "b", EMPTY), I), [kind], kind)

    def test_if_closes_a_record(self):
        body = either(make(b=ONE, a=EMPTY), either(I, J, get(J, "b")))
        kind = record(a=record(), b=NUMBER)
        self.told(2, body, [kind, kind], kind)

    def test_call(self):
        self.told(1, call("same", I), [blank(0)], blank(0), SAME)
        self.told(0, call("none"), [], record(a=NUMBER), ("none", 0, make(a=ONE)))
        self.told(2, call("choice", I, J), [blank(0), blank(0)], blank(0), CHOICE)
        self.told(2, call("choice", I, get(J, "a")), [blank(0), record(1, a=blank(0))], blank(0), CHOICE)
        self.told(1, call("first", make(a=ONE), I), [blank(0)], NUMBER, ("first", 2, get(I, "a")))
        self.told(1, call("change", make(a=I, b=I)), [blank(0)], record(a=NUMBER, b=blank(0)),
                  ("change", 1, put(I, "a", ONE)))

    def test_a_call_keeps_further_fields(self):
        change = ("change", 1, put(I, "a", EMPTY))
        self.told(1, put(call("change", I), "b", ONE), [record(2, a=blank(0), b=blank(1))],
                  record(2, a=record(), b=NUMBER), change)

    def test_told_kinds_come_anew_for_each_call(self):
        self.told(0, make(a=call("same", ONE), b=call("same", EMPTY)), [], record(a=NUMBER, b=record()), SAME)
        self.told(2, make(a=call("same", I), b=call("same", J)), [blank(0), blank(1)],
                  record(a=blank(0), b=blank(1)), SAME)
        ask = ("ask", 1, get(I, "a"))
        self.told(2, make(a=call("ask", I), b=call("ask", J)), [record(1, a=blank(0)), record(3, a=blank(2))],
                  record(a=blank(0), b=blank(2)), ask)
        self.told(0, make(x=call("ask", make(a=ONE)), y=call("ask", make(a=EMPTY, b=ONE))), [],
                  record(x=NUMBER, y=record()), ask)
        self.told(1, call("same", call("same", I)), [blank(0)], blank(0), SAME)
        calls = [("one", 0, call("same", ONE)), ("two", 0, call("same", EMPTY)), ("three", 1, call("same", I))]
        same = ((blank(0),), blank(0))
        self.assertEqual(judged([SAME, *calls]), ("good", [same, ((), NUMBER), ((), record()), same]))

    def test_a_blank_of_a_told_kind_is_one_within_a_call(self):
        double = ("double", 1, make(a=I, b=I))
        self.told(1, get(put(call("double", I), "a", ONE), "b"), [blank(0)], blank(0), double)
        self.told(1, add(get(call("double", I), "b"), ONE), [NUMBER], NUMBER, double)

    def test_calls_of_any_that_stand_ahead(self):
        program = [SAME, ("ask", 1, get(call("same", I), "a")), ("both", 2, add(call("ask", I), call("same", J)))]
        self.assertEqual(judged(program), ("good", [
            ((blank(0),), blank(0)), ((record(1, a=blank(0)),), blank(0)), ((record(0, a=NUMBER), NUMBER), NUMBER)]))

    def test_names_are_of_one_program_alone(self):
        self.told(0, call("same", ONE), [], record(a=NUMBER), ("same", 1, make(a=I)))
        self.told(0, call("same", ONE), [], NUMBER, SAME)

    def test_numbers_as_they_first_come(self):
        self.told(3, make(a=K, b=I), [blank(0), blank(1), blank(2)], record(a=blank(2), b=blank(0)))
        self.told(2, seq(get(J, "b"), get(J, "a"), I), [blank(0), record(3, a=blank(1), b=blank(2))], blank(0))
        self.told(2, seq(put(I, "b", J), get(get(I, "b"), "c"), get(I, "a"), J),
                  [record(3, a=blank(0), b=record(2, c=blank(1))), blank(4)], blank(4))
        self.told(2, seq(either(get(I, "z"), J), put(I, "y", ONE)), [record(2, y=blank(0), z=blank(1)), blank(1)],
                  record(2, y=NUMBER, z=blank(1)))

    def test_a_rest_is_numbered_behind_its_fields(self):
        self.told(1, get(get(get(I, "a"), "a"), "a"), [record(3, a=record(2, a=record(1, a=blank(0))))], blank(0))
        self.told(1, seq(get(get(I, "a"), "x"), get(I, "b"), get(get(I, "c"), "x")),
                  [record(5, a=record(1, x=blank(0)), b=blank(2), c=record(4, x=blank(3)))], blank(3))

    def test_labels_rise_by_the_alphabet(self):
        body = make(b=ONE, aa=ONE, a=ONE, ab=EMPTY)
        told = kind_of(0, body)
        self.assertEqual([label for label, _ in told[1][1]], ["a", "aa", "ab", "b"])
        told = kind_of(1, seq(*[get(I, label) for label in ("b", "ab", "a", "aa")]))
        self.assertEqual([label for label, _ in told[0][0][1]], ["a", "aa", "ab", "b"])

    def test_more_than_the_limits_of_programs(self):
        self.told(9, ("input", 8), [blank(k) for k in range(9)], blank(8))
        self.told(1, nest(lambda body: add(body, ONE), 1200, I), [NUMBER], NUMBER)
        self.told(1, nest(lambda body: put(body, "a", ONE), 500, I), [record(1, a=blank(0))], record(1, a=NUMBER))
        program = [("f", 0, ONE)] + [("f" + "abcdefghi"[k], 0, call("f")) for k in range(9)]
        self.assertEqual(judged(program), ("good", [((), NUMBER)] * 10))
        # What lies within is far deeper than a told kind may be.
        self.told(0, get(make(a=ONE, b=nest(lambda body: make(a=body), 1200, ONE)), "a"), [], NUMBER)
        two = nest(lambda body: make(a=body), 1200, ONE), nest(lambda body: make(a=body), 1200, I)
        self.told(1, seq(either(*two), I), [NUMBER], NUMBER)


# By name: how many inputs, the body, the one place and the other.
CLASHES = {
    # A number and a record.
    "a number is asked for a field": (0, get(ONE, "a"), (0,), ()),
    "a number is asked to put": (0, put(ONE, "a", ONE), (0,), ()),
    "a record in a sum": (0, add(EMPTY, ONE), (0,), ()),
    "a record in a sum, the second one": (0, add(ONE, EMPTY), (1,), ()),
    "a record where if has a number": (0, either(ONE, ONE, EMPTY), (0,), ()),
    "sum's first one is joined first": (0, add(EMPTY, EMPTY), (0,), ()),
    "if's first one is joined first": (0, either(ONE, EMPTY, EMPTY), (0,), ()),
    "if of a number and a record": (0, either(ONE, EMPTY), (1,), (2,)),
    "if of a record and a number": (0, either(EMPTY, ONE), (1,), (2,)),
    "the place itself is made a number": (1, get(add(I, I), "a"), (0,), ()),
    "an input is a number, then asked": (1, make(a=add(I, ONE), b=get(I, "a")), (0,), (1,)),
    "an input is asked, then a number": (1, make(a=get(I, "a"), b=add(ONE, I)), (0,), (1,)),
    "a number asked for in what was put": (0, get(get(put(make(a=ONE), "a", ONE), "a"), "b"), (0, 0, 1), ()),
    "places in order, not by their depth": (1, seq(seq(add(I, ONE)), get(I, "a")), (0, 0, 0, 0), (0, 1)),
    "places in order, the last ones within the first": (0, either(get(make(a=get(make(b=ONE), "b")), "a"), EMPTY),
                                                         (1, 0, 0, 0, 0), (2,)),
    # A label and an end.
    "no field of that label": (0, get(make(b=ONE), "a"), (0,), ()),
    "no field at all": (0, get(EMPTY, "a"), (0,), ()),
    "put where there is no field": (0, put(make(b=ONE), "a", ONE), (0,), ()),
    "put keeps the end": (0, get(put(make(b=ONE), "b", ONE), "a"), (0, 0), ()),
    "if of a record and one with a field more": (0, either(EMPTY, make(a=ONE)), (1,), (2,)),
    "if of a record with a field more and one": (0, either(make(a=ONE), EMPTY), (1,), (2,)),
    "asked, then without": (1, seq(get(I, "a"), either(I, EMPTY)), (0, 0), (0, 1, 2)),
    "asked, then without, the other way": (1, seq(get(I, "a"), either(EMPTY, I)), (0, 0), (0, 1, 1)),
    "without, then asked": (1, seq(either(I, EMPTY), get(I, "a")), (0, 0, 2), (0, 1)),
    "the first label by the alphabet": (
        1, seq(get(I, "b"), get(I, "c"), get(I, "a"), either(I, EMPTY)), (0, 2), (0, 3, 2)),
    "the first label by the alphabet, that the one has": (
        0, either(put(make(a=ONE), "a", ONE), put(make(b=ONE), "b", ONE)), (1,), (2, 0)),
    "the first label by the alphabet, that the other has": (
        0, either(put(make(b=ONE), "b", ONE), put(make(a=ONE), "a", ONE)), (1, 0), (2,)),
    # Labels that both have go first, by the alphabet.
    "a common label goes ahead of one that one lacks": (0, either(make(b=ONE), make(a=ONE, b=EMPTY)), (1, 0), (2, 1)),
    "the first common label goes first": (0, either(make(b=ONE, a=ONE), make(b=EMPTY, a=EMPTY)), (1, 1), (2, 1)),
    "a common label within a common label": (0, either(make(a=make(b=ONE), b=ONE), make(a=make(b=EMPTY), b=EMPTY)),
                                             (1, 0, 0), (2, 0, 0)),
    # An unknown kind and a record that holds it.
    "a record within itself": (1, either(I, make(a=I)), (2,), ()),
    "a record within itself, the other way": (1, either(make(a=I), I), (1,), ()),
    "a record far within itself": (1, either(make(a=make(b=make(c=I))), I), (1,), ()),
    "what is asked for is the record": (1, either(I, get(I, "a")), (2,), ()),
    "what is asked for is the record, the other way": (1, either(get(I, "a"), I), (1,), ()),
    "it is told of two, one within the other": (2, seq(either(I, make(a=J)), either(J, make(a=I))), (0, 1, 2), (0, 1)),
    # An unknown rest and a label whose kind holds it.
    "a rest within its own label": (2, seq(either(get(J, "b"), I), either(put(I, "a", ONE), J)), (0, 0, 1), (0, 1)),
    "a rest within its own label, the other way": (
        2, seq(either(get(J, "b"), I), either(J, put(I, "a", ONE))), (0, 0, 1), (0, 1)),
    "the first label whose kind holds it": (
        2, seq(get(I, "d"), get(J, "a"), either(get(J, "c"), I), either(get(J, "b"), I), either(put(I, "d", ONE), J)),
        (0, 3, 1), (0, 4)),
    "the first label whose kind holds it, the other way": (
        2, seq(get(I, "d"), get(J, "a"), either(get(J, "c"), I), either(get(J, "b"), I), either(J, put(I, "d", ONE))),
        (0, 3, 1), (0, 4)),
    "the other's rest goes ahead of the one's": (2, either(put(I, "c", I), put(J, "a", J)), (2,), ()),
    "the other's rest goes ahead, the other way": (2, either(put(J, "a", J), put(I, "c", I)), (2,), ()),
    "a label has the use that it had in the other record": (
        2, either(make(a=get(J, "c")), put(J, "a", I)), (1, 0), (1,)),
}

# Point 10 in its finer parts: what is one, which use stays, what further labels come up. As in CLASHES.
FINE_CLASHES = {
    "of two numbers the earlier use": (1, seq(add(I, ONE), either(ONE, I), get(I, "a")), (0, 0), (0, 2)),
    "of two numbers the earlier use, though the other's": (
        2, seq(add(I, ONE), add(J, ONE), either(J, I), get(J, "a")), (0, 0), (0, 3)),
    "two numbers are one": (3, seq(add(J, ONE), either(add(ONE, ONE), K), either(J, K), get(K, "a")), (0, 0), (0, 3)),
    "one number all along": (
        3, seq(either(J, ONE), either(K, ONE), either(J, K), either(add(I, ONE), J), get(K, "a")), (0, 0, 2), (0, 4)),
    "of two records the earlier use": (2, seq(get(J, "a"), get(I, "b"), either(I, J), add(I, ONE)), (0, 0), (0, 3)),
    "of two records the earlier use, the one's": (
        2, seq(get(I, "b"), get(J, "a"), either(I, J), add(J, ONE)), (0, 0), (0, 3)),
    "of two labels the earlier use, the one's": (
        2, seq(get(J, "a"), get(I, "a"), either(J, I), either(I, EMPTY)), (0, 0), (0, 3, 2)),
    "of two labels the earlier use, the other's": (
        2, seq(get(J, "a"), get(I, "a"), either(I, J), either(I, EMPTY)), (0, 0), (0, 3, 2)),
    "both labels have it, also for who shares the one's rest": (
        3, seq(get(J, "x"), get(either(K, put(I, "y", ONE)), "x"), either(I, J), either(K, EMPTY)), (0, 0), (0, 3, 2)),
    "both labels have it, also for who shares the other's rest": (
        3, seq(get(J, "x"), get(either(K, put(I, "y", ONE)), "x"), either(J, I), either(K, EMPTY)), (0, 0), (0, 3, 2)),
    "labels have it behind the joining of their kinds": (
        1, either(make(a=I), either(make(a=EMPTY), I)), (2, 1, 0), (2, 1)),
    "of two ends the earlier use": (0, get(either(EMPTY, EMPTY), "a"), (0, 1), ()),
    "of two ends the earlier use, the other's": (
        2, seq(either(I, EMPTY), either(J, EMPTY), either(J, I), get(J, "a")), (0, 0, 2), (0, 3)),
    "two ends are one, for who shares the one that is gone": (
        3, make(m=either(make(a=ONE), seq(either(K, put(I, "a", ONE)), either(make(a=ONE), J), either(I, make(a=ONE)),
                                          either(J, I), J)), n=get(K, "q")), (0, 1), (1,)),
    "an end that a rest comes to is that of the other record": (
        3, make(m=either(make(a=ONE), seq(either(K, put(I, "a", ONE)), either(make(a=ONE), I), I)), n=get(K, "q")),
        (0, 1), (1,)),
    "an end that two records share": (
        1, seq(either(I, make(a=ONE)), either(I, put(I, "a", ONE)), get(I, "b")), (0, 0, 2), (0, 2)),
    "the end is told at the record that was made": (2, seq(get(I, "a"), either(make(a=ONE, b=ONE), I), get(I, "c")),
                                                   (0, 1, 1), (0, 2)),
    "a label's new row has its own use": (
        3, either(make(a=either(put(K, "a", get(K, "a")), put(J, "a", I))),
                  get(either(put(J, "c", K), make(c=J)), "b")), (1, 0, 2), (2, 0, 2)),
    "labels that come up while labels are joined": (
        3, either(make(a=put(get(I, "a"), "b", either(K, I)), b=get(J, "c")), put(J, "a", J)), (1, 0, 0), ()),
    "the record that clashes has its own use": (1, either(make(a=I), get(put(I, "a", I), "a")), (2, 0), ()),
    "the record that clashes is the other one": (
        1, either(make(a=get(I, "a")), put(I, "a", I)), (1, 0), ()),
}


class ClashTest(unittest.TestCase):
    def test_two_places(self):
        for name, (many, body, one, other) in {**CLASHES, **FINE_CLASHES}.items():
            with self.subTest(name=name):
                self.assertEqual(judged([("main", many, body)]), ("clash", [], one, other))

    def test_in_a_call(self):
        for name, ahead, body, one, other in [
            ("the first of its bodies", ("ask", 1, get(I, "a")), call("ask", ONE), (0,), ()),
            ("its bodies in order", ("both", 2, add(I, J)), call("both", EMPTY, EMPTY), (0,), ()),
            ("the second of them", ("both", 2, add(I, J)), call("both", ONE, EMPTY), (1,), ()),
            ("one blank for two", CHOICE, call("choice", ONE, EMPTY), (0,), (1,)),
            ("one blank for two, the other way", CHOICE, call("choice", EMPTY, ONE), (0,), (1,)),
            ("its result", ("five", 0, ONE), get(call("five"), "a"), (0,), ()),
            ("its result has an end", ("five", 0, EMPTY), get(call("five"), "a"), (0,), ()),
            ("its result has no further field", ("five", 1, make(a=I)), get(call("five", I), "b"), (0,), ()),
            ("its result's field", ("five", 0, make(a=ONE)), get(get(call("five"), "a"), "a"), (0, 0), ()),
            ("no such field", ("ask", 1, get(I, "a")), call("ask", make(b=ONE)), (0,), ()),
            ("the end of what is asked", ("five", 2, either(I, make(a=ONE))),
             call("five", make(a=ONE, b=ONE), ONE), (0,), ()),
        ]:
            with self.subTest(name=name):
                told = judged([ahead, ("main", 1, body)])
                self.assertEqual(told[0::2] + told[3:], ("clash", one, other))

    def test_one_place_for_both(self):
        mixed = ("mixed", 2, add(I, get(J, "a")))
        self.assertEqual(judged([mixed, ("main", 1, call("mixed", I, I))])[2:], ((), ()))
        body = get(make(a=ONE, b=call("mixed", I, I)), "a")
        self.assertEqual(judged([mixed, ("main", 1, body)])[2:], ((0, 1), (0, 1)))
        within = ("within", 2, either(I, get(J, "a")))
        self.assertEqual(judged([within, ("main", 1, call("within", I, I))])[2:], ((), ()))
        ends = ("ends", 2, seq(either(I, EMPTY), get(J, "a")))
        self.assertEqual(judged([ends, ("main", 1, call("ends", I, I))])[2:], ((), ()))

    def test_the_kinds_of_those_ahead(self):
        bad = ("bad", 1, get(ONE, "a"))
        five = ("five", 2, make(a=I))
        kinds = [((blank(0),), blank(0)), ((blank(0), blank(1)), record(a=blank(0)))]
        self.assertEqual(judged([bad]), ("clash", [], (0,), ()))
        self.assertEqual(judged([SAME, bad]), ("clash", kinds[:1], (0,), ()))
        self.assertEqual(judged([SAME, five, bad]), ("clash", kinds, (0,), ()))
        self.assertEqual(judged([SAME, bad, five]), ("clash", kinds[:1], (0,), ()))
        self.assertEqual(judged([bad, SAME, five]), ("clash", [], (0,), ()))

    def test_the_first_one_that_clashes_ends_it(self):
        program = [SAME, ("bad", 0, add(ONE, EMPTY)), ("worse", 0, get(ONE, "a")), ("calls", 0, call("bad"))]
        self.assertEqual(judged(program), ("clash", [((blank(0),), blank(0))], (1,), ()))

    def test_the_forms_of_what_is_told(self):
        told = judged([SAME, ("bad", 0, add(EMPTY, ONE))])
        self.assertIs(type(told), tuple)
        self.assertEqual([type(part) for part in told], [str, list, tuple, tuple])
        told = judged([SAME, ("ask", 1, get(I, "a"))])
        self.assertIs(type(told), tuple)
        self.assertEqual([type(part) for part in told], [str, list])
        for kind in told[1]:
            self.assertEqual([type(part) for part in (kind, *kind, *kind[0])], [tuple] * 4)

    def test_far_within(self):
        body = either(nest(lambda body: make(a=body), 1200, ONE), nest(lambda body: make(a=body), 1200, EMPTY))
        self.assertEqual(judged([("main", 0, body)]), ("clash", [], (1,) + (0,) * 1200, (2,) + (0,) * 1200))
        body = either(I, nest(lambda body: get(body, "a"), 1200, I))
        self.assertEqual(judged([("main", 1, body)])[2:], ((2,) + (0,) * 1199, ()))


def asks(many):
    """Return a body that asks its one input for so many numbers, and comes to a number."""
    sums = tuple((label, add(get(I, label), ONE)) for label in labels(many))
    return get(("make", sums), "aa")


def wide_body(many):
    return ("make", tuple((label, ONE) for label in labels(many)))


class TooGreatTest(unittest.TestCase):
    def good(self, *program):
        self.assertEqual(judged(list(program))[0], "good")

    def refuses(self, *program):
        with self.assertRaises(TooGreat) as held:
            judged(list(program))
        self.assertIs(type(held.exception), TooGreat)

    def flat(self, many):
        return ("flat", 0, wide_body(many))

    def test_knots_of_the_result(self):
        self.assertEqual(judged([self.flat(199)]), ("good", [((), wide(199))]))
        self.refuses(self.flat(200))
        self.refuses(self.flat(300))

    def test_knots_of_an_input(self):
        # The input's record and its fields, and the result.
        self.assertEqual(judged([("asks", 1, asks(198))]), ("good", [((wide(198, NUMBER, 0),), NUMBER)]))
        self.refuses(("asks", 1, asks(199)))

    def test_knots_of_all_together(self):
        half = ("half", 0, wide_body(49))
        # Three times 50 knots, one for the record around two of them, and those of "more".
        body = seq(either(I, call("half")), make(a=call("half"), b=call("half"), c=call("more")))
        self.good(half, ("more", 0, wide_body(48)), ("main", 1, body))
        self.refuses(half, ("more", 0, wide_body(49)), ("main", 1, body))
        self.refuses(half, ("more", 0, wide_body(48)), ("main", 2, body))
        row = ("make", tuple((label, I) for label in labels(198)))
        self.good(("main", 1, row))
        self.refuses(("main", 2, row))
        self.refuses(("main", 1, ("make", tuple((label, I) for label in labels(199)))))

    def test_knots_that_come_by_calls(self):
        double = ("double", 1, make(a=I, b=I))
        # Seven levels have 127 knots within and 128 blanks.
        self.good(double, ("main", 1, nest(lambda body: call("double", body), 6, I)))
        self.refuses(double, ("main", 1, nest(lambda body: call("double", body), 7, I)))
        great = ("great", 1, nest(lambda body: call("double", body), 6, I))
        self.refuses(double, great, ("main", 1, nest(lambda body: call("great", body), 30, I)))

    def test_depth(self):
        for many in (11, 12):
            for name, body in {
                "made": nest(lambda body: make(a=body), many, ONE),
                "asked": add(ONE, nest(lambda body: get(body, "a"), many, I)),
                "made with a record within": nest(lambda body: make(a=body), many, EMPTY),
            }.items():
                with self.subTest(many=many, name=name):
                    (self.good if many == 11 else self.refuses)(("main", 1, body))
        self.assertEqual(judged([("main", 0, nest(lambda body: make(a=body), 11, ONE))]), ("good", [((), deep(11))]))
        self.refuses(("main", 1, nest(lambda body: make(a=body), 2000, I)))
        self.refuses(("main", 1, nest(lambda body: get(body, "a"), 2000, I)))

    def test_depth_within_a_body_eight_deep(self):
        six = ("six", 1, nest(lambda body: make(a=body), 6, I))
        self.good(six, ("main", 1, nest(lambda body: make(b=body), 5, call("six", I))))
        self.refuses(six, ("main", 1, nest(lambda body: make(b=body), 6, call("six", I))))
        self.refuses(six, ("main", 1, call("six", call("six", I))))

    def test_what_is_not_told_may_be_greater(self):
        self.good(("main", 0, get(make(a=ONE, b=nest(lambda body: make(a=body), 12, ONE)), "a")))
        self.good(self.flat(199), ("main", 0, get(make(a=ONE, b=make(c=call("flat"), d=call("flat"))), "a")))
        double = ("double", 1, make(a=I, b=I))
        self.good(double, ("main", 1, get(make(a=ONE, b=nest(lambda body: call("double", body), 100, I)), "a")))

    def test_in_order(self):
        clash = ("clash", 0, get(ONE, "a"))
        great = self.flat(200)
        self.refuses(great, clash)
        self.refuses(SAME, great, clash)
        self.assertEqual(judged([clash, great]), ("clash", [], (0,), ()))
        self.assertEqual(judged([SAME, clash, great]), ("clash", [((blank(0),), blank(0))], (0,), ()))

    def test_a_definition_that_clashes_is_not_too_great(self):
        body = seq(nest(lambda body: make(a=body), 20, ONE), either(wide_body(300), ONE))
        self.assertEqual(judged([("main", 0, body)])[2:], ((0, 1, 1), (0, 1, 2)))


class HeldApartTest(unittest.TestCase):
    """What is handed in stays as it was, and may change behind the call; what is told is the asker's own."""

    PROGRAMS = {
        "good": ([SAME, ("ask", 1, get(I, "a"))],
                 ("good", [((blank(0),), blank(0)), ((record(1, a=blank(0)),), blank(0))])),
        "clash": ([SAME, ("bad", 0, add(ONE, EMPTY))], ("clash", [((blank(0),), blank(0))], (1,), ())),
    }

    def test_what_is_told_is_changed(self):
        for name, (program, due) in self.PROGRAMS.items():
            with self.subTest(name=name):
                told = judged(program)
                self.assertEqual(told, due)
                told[1].append("more")
                told[1][0] = None
                self.assertEqual(judged(program), due)
                told[1].clear()
                self.assertEqual(judged(program), due)

    def test_what_is_told_stays_behind_later_calls(self):
        held = {name: judged(program) for name, (program, _) in self.PROGRAMS.items()}
        for program, _ in self.PROGRAMS.values():
            judged(program)[1].clear()
            judged(program + [("main", 1, add(call("same", I), ONE))])
        self.assertEqual(held, {name: due for name, (_, due) in self.PROGRAMS.items()})

    def test_what_is_handed_in(self):
        for name, (program, due) in self.PROGRAMS.items():
            with self.subTest(name=name):
                mine = copy.deepcopy(program)
                told = judged(mine)
                self.assertEqual(mine, program)
                mine[0] = ("same", 0, ONE)
                mine.append(None)
                self.assertEqual(told, due)
                mine.clear()
                self.assertEqual(told, due)
                self.assertEqual(judged(program), due)


if __name__ == "__main__":
    unittest.main()
