"""Tests of fieldrest/running.py."""

import copy
import unittest

from fieldrest.errors import Lacks, NoDefinition, NoNumber, NoRecord
from fieldrest.judging import judged
from fieldrest.running import is_of, run
from tests.shapes import (
    EMPTY, I, J, K, NUMBER, ONE, ZERO, add, blank, call, deep, either, get, labels, make, nest, put, record, value,
)

# Bodies that are refused when they are worked out.
LACKS = get(EMPTY, "a")
NO_NUMBER = add(EMPTY, EMPTY)
NO_RECORD = get(ONE, "a")


class IsOfTest(unittest.TestCase):
    def of(self, thing, kind):
        self.assertIs(is_of(thing, kind), True)

    def not_of(self, thing, kind):
        self.assertIs(is_of(thing, kind), False)

    def test_of_number(self):
        for number in (0, 1, -1, 10 ** 12, -10 ** 40):
            self.of(number, NUMBER)
        for thing in ((), value(a=1), value(a=value(b=1))):
            self.not_of(thing, NUMBER)

    def test_of_a_blank(self):
        for thing in (0, -5, (), value(a=1), value(a=(), b=value(c=7))):
            self.of(thing, blank(0))
            self.of(value(x=thing), record(x=blank(9)))

    def test_a_blank_that_comes_twice_is_of_any_values(self):
        self.of(value(a=1, b=value(c=2)), record(a=blank(0), b=blank(0)))
        self.of(value(a=value(x=1), b=value(x=1, y=2)), record(a=record(0, x=NUMBER), b=record(0, x=NUMBER)))

    def test_of_a_record_without_a_rest(self):
        self.of((), record())
        self.of(value(a=1, b=()), record(a=NUMBER, b=record()))
        for number in (0, 1, -7):
            self.not_of(number, record())
            self.not_of(number, record(a=NUMBER))

    def test_fields_more_and_less(self):
        kind = record(a=NUMBER, b=blank(0))
        self.of(value(a=1, b=2), kind)
        for thing in ((), value(a=1), value(b=1), value(a=1, b=2, c=3), value(a=1, c=3), value(x=1, y=2)):
            self.not_of(thing, kind)
        self.not_of(value(a=1), record())

    def test_of_a_record_with_a_rest(self):
        kind = record(1, b=NUMBER)
        for thing in (value(b=1), value(a=1, b=2), value(b=1, c=()), value(a=(), b=3, c=value(b=()))):
            self.of(thing, kind)
        for thing in (0, (), value(a=1), value(c=1), value(a=1, c=1), value(b=()), value(a=1, b=value(b=1), c=2)):
            self.not_of(thing, kind)
        self.of((), record(0))
        self.of(value(a=1), record(0))
        self.not_of(0, record(0))

    def test_fields_of_their_kinds(self):
        kind = record(a=record(0, x=NUMBER), b=NUMBER)
        self.of(value(a=value(x=1, y=()), b=2), kind)
        self.not_of(value(a=value(x=(), y=1), b=2), kind)
        self.not_of(value(a=value(y=1), b=2), kind)
        self.not_of(value(a=1, b=2), kind)
        self.not_of(value(a=value(x=1), b=()), kind)

    def test_far_within(self):
        inner = nest(lambda thing: value(a=thing), 11, 5)
        self.of(inner, deep(11))
        self.not_of(inner, deep(12))
        self.not_of(inner, deep(10))
        self.of(inner, deep(10, blank(0)))
        self.of(nest(lambda thing: value(a=thing), 1500, 5), deep(1500))
        self.not_of(nest(lambda thing: value(a=thing), 1500, ()), deep(1500))

    def test_many_fields(self):
        kind = ("record", tuple((label, NUMBER) for label in labels(199)), None)
        self.of(tuple((label, 1) for label in labels(199)), kind)
        self.not_of(tuple((label, 1) for label in labels(198)), kind)
        self.not_of(tuple((label, 1) for label in labels(200)), kind)


class RunTest(unittest.TestCase):
    def comes_to(self, body, due, *values):
        told = run([("main", len(values), body)], 0, list(values))
        self.assertEqual(told, due)
        self.assertIs(type(told), type(due))

    def test_number(self):
        for number in (0, 7, -10 ** 12):
            self.comes_to(("number", number), number)

    def test_input(self):
        for k, body in enumerate([I, J, K]):
            self.comes_to(body, [4, (), value(a=1)][k], 4, (), value(a=1))

    def test_make(self):
        self.comes_to(EMPTY, ())
        self.comes_to(make(b=I, a=make(z=ONE), aa=J), (("a", (("z", 1),)), ("aa", 6), ("b", 5)), 5, 6)

    def test_get(self):
        for label, due in {"a": 1, "b": (), "c": value(a=2)}.items():
            self.comes_to(get(I, label), due, value(a=1, b=(), c=value(a=2)))

    def test_put(self):
        self.comes_to(put(I, "b", ONE), value(a=5, b=1, c=7), value(a=5, b=6, c=7))
        self.comes_to(put(I, "b", I), value(b=value(b=6)), value(b=6))
        self.comes_to(put(make(c=ONE, b=ONE, a=ONE), "c", EMPTY), (("a", 1), ("b", 1), ("c", ())))

    def test_sum(self):
        self.comes_to(add(I, J), 5, 7, -2)
        self.comes_to(nest(lambda body: add(body, body), 6, I), 2 ** 6 * 10 ** 12, 10 ** 12)

    def test_if(self):
        for due, number in [(7, 1), (8, 0), (7, -1), (7, 10 ** 12)]:
            self.comes_to(either(J, K, I), due, number, 7, 8)

    def test_call(self):
        program = [("two", 2, make(a=I, b=J)), ("one", 1, call("two", I, ONE)), ("none", 0, call("one", EMPTY)),
                   ("main", 2, call("two", J, call("two", I, J)))]
        self.assertEqual(run(program, 0, [3, 4]), value(a=3, b=4))
        self.assertEqual(run(program, 1, [3]), value(a=3, b=1))
        self.assertEqual(run(program, 2, []), value(a=(), b=1))
        self.assertEqual(run(program, 3, [3, 4]), value(a=4, b=value(a=3, b=4)))

    def test_the_inputs_behind_a_call_are_those_ahead_of_it(self):
        program = [("swap", 2, make(a=J, b=I)), ("main", 2, make(a=I, b=call("swap", J, call("swap", I, J)), c=J))]
        inner = value(a=2, b=1)
        self.assertEqual(run(program, 1, [1, 2]), value(a=1, b=value(a=inner, b=2), c=2))

    def test_all_together(self):
        program = [
            ("add", 2, put(I, "n", add(get(I, "n"), J))),
            ("step", 2, either(call("add", I, get(get(I, "by"), "n")), I, J)),
            ("main", 1, call("step", call("step", I, ONE), ZERO)),
        ]
        record = value(by=value(n=5), n=7, other=())
        self.assertEqual(run(program, 2, [record]), value(by=value(n=5), n=12, other=()))

    def test_definitions_that_are_not_let_by(self):
        clash = ("clash", 1, either(I, get(I, "a"), ONE))
        self.assertEqual(judged([clash])[0], "clash")
        self.assertEqual(run([clash], 0, [8]), 8)
        self.assertEqual(run([clash, ("main", 0, call("clash", EMPTY))], 1, []), ())
        great = ("great", 1, get(nest(lambda body: make(a=body), 20, I), "a"))
        self.assertEqual(run([great], 0, [8]), nest(lambda thing: value(a=thing), 19, 8))

    def test_far_within(self):
        self.comes_to(nest(lambda body: add(body, ONE), 3000, I), 3005, 5)
        self.comes_to(nest(lambda body: add(ONE, body), 3000, I), 3005, 5)
        self.comes_to(nest(lambda body: put(body, "a", ONE), 3000, I), value(a=1), value(a=3))
        names = labels(600)
        program = [(names[0], 1, I)] + [(names[k], 1, add(call(names[k - 1], I), ONE)) for k in range(1, 600)]
        self.assertEqual(run(program, 599, [1]), 600)


class RefusedTest(unittest.TestCase):
    def refuses(self, error, body, *values, ahead=()):
        with self.assertRaises(error) as held:
            run([*ahead, ("main", len(values), body)], len(ahead), list(values))
        self.assertIs(type(held.exception), error)

    def test_no_definition(self):
        program = [("one", 1, I), ("two", 2, J)]
        for number, values in [(2, []), (2, [1]), (-1, [1, 2]), (-2, [1]), (10 ** 20, []),
                               (0, []), (0, [1, 2]), (1, []), (1, [1]), (1, [1, 2, 3])]:
            with self.subTest(number=number, values=values):
                with self.assertRaises(NoDefinition) as held:
                    run(program, number, values)
                self.assertIs(type(held.exception), NoDefinition)
        with self.assertRaises(NoDefinition):
            run([], 0, [])

    def test_no_definition_is_ahead_of_all_others(self):
        for body in (LACKS, NO_NUMBER, NO_RECORD):
            for number, values in [(0, [1]), (1, []), (-1, [])]:
                with self.assertRaises(NoDefinition):
                    run([("main", 0, body)], number, values)

    def test_lacks(self):
        for body in (get(I, "b"), put(I, "b", ONE), get(put(I, "a", ONE), "b"), add(get(I, "b"), ONE)):
            self.refuses(Lacks, body, value(a=1, c=2))
            self.refuses(Lacks, body, value(a=value(b=1), bb=2))
        self.refuses(Lacks, get(I, "a"), ())
        self.refuses(Lacks, put(EMPTY, "a", ONE))

    def test_no_record(self):
        for body in (get(I, "a"), put(I, "a", ONE), get(get(make(a=I), "a"), "a")):
            self.refuses(NoRecord, body, 0)
            self.refuses(NoRecord, body, 5)

    def test_no_number(self):
        for body in (add(I, ONE), add(ONE, I), either(ONE, ONE, I), add(get(make(a=I), "a"), ONE)):
            self.refuses(NoNumber, body, ())
            self.refuses(NoNumber, body, value(a=1))

    def test_in_a_call(self):
        ask = ("ask", 1, get(I, "a"))
        self.refuses(Lacks, call("ask", I), (), ahead=[ask])
        self.refuses(NoRecord, call("ask", I), 3, ahead=[ask])
        self.refuses(NoNumber, call("plus", I), (), ahead=[("plus", 1, add(I, ONE))])
        self.refuses(Lacks, call("outer"), ahead=[ask, ("outer", 0, call("ask", EMPTY))])


class OrderTest(unittest.TestCase):
    """What is refused first, and what isn't come to."""

    def refuses(self, error, body, *ahead):
        with self.assertRaises(error) as held:
            run([*ahead, ("main", 0, body)], len(ahead), [])
        self.assertIs(type(held.exception), error)

    def test_bodies_in_order(self):
        for first, one in [(Lacks, LACKS), (NoNumber, NO_NUMBER), (NoRecord, NO_RECORD)]:
            for other in (LACKS, NO_NUMBER, NO_RECORD):
                for body in (make(b=one, a=other), make(c=ONE, b=one, a=other), put(one, "a", other), add(one, other),
                             either(other, other, one), call("f", one, other), get(one, "a")):
                    with self.subTest(body=body):
                        self.refuses(first, body, ("f", 2, ONE))

    def test_a_make_by_its_fields_as_they_stand(self):
        self.refuses(Lacks, make(z=LACKS, a=NO_NUMBER))
        self.refuses(NoNumber, make(a=NO_NUMBER, z=LACKS))

    def test_just_one_of_an_if(self):
        for number, due in [(1, 5), (0, 6), (-3, 5)]:
            body = either(("number", 5), LACKS, ("number", number)) if number else either(LACKS, ("number", 6))
            self.assertEqual(run([("main", 0, body)], 0, []), due)
        self.refuses(Lacks, either(LACKS, NO_NUMBER, ONE))
        self.refuses(NoNumber, either(LACKS, NO_NUMBER, ZERO))

    def test_an_if_is_looked_at_ahead_of_what_it_chooses(self):
        self.refuses(NoNumber, either(LACKS, LACKS, EMPTY))
        self.refuses(NoNumber, either(NO_RECORD, NO_RECORD, make(a=ONE)))

    def test_a_call_works_out_all_its_bodies_ahead_of_what_is_called(self):
        ask = ("ask", 2, get(I, "a"))
        self.refuses(NoNumber, call("ask", EMPTY, NO_NUMBER), ask)
        self.refuses(NoNumber, call("ask", ONE, NO_NUMBER), ask)
        self.refuses(Lacks, call("ask", EMPTY, ONE), ask)
        # Also such as it doesn't come to.
        self.refuses(Lacks, call("first", ONE, LACKS), ("first", 2, I))
        self.refuses(NoRecord, call("five", NO_RECORD), ("five", 1, ("number", 5)))

    def test_a_record_is_asked_for_the_label_ahead_of_what_is_put(self):
        self.refuses(Lacks, put(EMPTY, "a", NO_NUMBER))
        self.refuses(Lacks, put(make(b=ONE), "a", NO_RECORD))
        self.refuses(NoRecord, put(ONE, "a", LACKS))
        self.refuses(NoRecord, put(ONE, "a", NO_NUMBER))
        self.refuses(NoNumber, put(make(a=ONE), "a", NO_NUMBER))

    def test_the_first_one_of_a_sum_is_looked_at_ahead_of_the_second(self):
        self.refuses(NoNumber, add(EMPTY, LACKS))
        self.refuses(NoNumber, add(EMPTY, NO_RECORD))
        self.refuses(Lacks, add(ONE, LACKS))
        self.refuses(NoRecord, add(ONE, NO_RECORD))
        self.refuses(NoNumber, add(ONE, EMPTY))

    def test_all_of_a_make_and_of_a_put(self):
        self.refuses(Lacks, get(make(a=ONE, b=LACKS), "a"))
        self.refuses(Lacks, get(put(make(a=ONE, b=ONE), "b", LACKS), "a"))


class HeldApartTest(unittest.TestCase):
    """What is handed in stays as it was, and may change behind the call; nothing is kept from one call to the next."""

    def test_run(self):
        program = [("two", 2, make(a=I, b=J)), ("main", 2, call("two", J, I))]
        values = [value(x=1), 2]
        held = copy.deepcopy((program, values))
        told = run(program, 1, values)
        due = value(a=2, b=value(x=1))
        self.assertEqual(told, due)
        self.assertEqual((program, values), held)
        values[0] = 9
        program[0] = ("two", 2, ONE)
        self.assertEqual(told, due)
        self.assertEqual(run(program, 1, values), 1)
        self.assertEqual(run(held[0], 1, held[1]), due)

    def test_refused(self):
        program, values = [("main", 1, make(a=I, b=get(I, "z")))], [value(x=1)]
        with self.assertRaises(Lacks):
            run(program, 0, values)
        self.assertEqual(values, [value(x=1)])
        self.assertEqual(run(program, 0, [value(z=3)]), value(a=value(z=3), b=3))

    def test_is_of(self):
        thing, kind = value(a=1), record(0, a=NUMBER)
        self.assertIs(is_of(thing, kind), True)
        self.assertEqual((thing, kind), (value(a=1), record(0, a=NUMBER)))


if __name__ == "__main__":
    unittest.main()
