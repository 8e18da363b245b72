"""Tests of what the document promises over the whole program, by many programs."""

import functools
import random
import unittest

from fieldrest.errors import FieldError, NoDefinition, TooGreat
from fieldrest.forms import at_place, places_of
from fieldrest.judging import judged, marked
from fieldrest.kinds import filled, fits, is_kind
from fieldrest.running import is_of, run
from tests import plainly, programs, standing

NUMBER = ("number",)


def is_good(program):
    told = plainly.whole(program)[0]
    return told is not None and told[0] == "good"


@functools.cache
def some_programs():
    """Return a tuple of programs of up to six definitions, of which most stand."""
    return tuple(programs.some_program(seed, is_good) for seed in range(450))


def answer(asked, *handed):
    """Return what is told, or the class of what is refused."""
    try:
        return asked(*handed)
    except FieldError as error:
        return type(error)


class AsWrittenTest(unittest.TestCase):
    """What is told is what points 9 to 13 tell if they are followed word by word."""

    def test_kinds_clashes_and_marks(self):
        ends = {"good": 0, "clash": 0}
        for seed, program in enumerate(some_programs()):
            told, marks = plainly.whole(program)
            with self.subTest(seed=seed, program=program):
                self.assertEqual(judged(program), told)
                ends[told[0]] += 1
                for number in range(-1, len(program) + 1):
                    due = marks[number] if 0 <= number < len(marks) else NoDefinition
                    self.assertEqual(answer(marked, program, number), due)
        self.assertGreater(min(ends.values()), 100)

    def test_bodies_by_chance_alone(self):
        ends = {}
        for seed in range(4000):
            r = random.Random(seed)
            many = r.randint(1, 3)
            parts = [programs.some_body(r, r.randint(2, 4), many, [], "abc") for _ in range(r.randint(1, 5))]
            program = [("main", many, ("make", tuple(zip("abcde", parts))))]
            told = answer(judged, program)
            self.assertEqual(told, plainly.whole(program)[0] or TooGreat)
            ends[told[0] if told is not TooGreat else told] = True
        self.assertEqual(set(ends), {"good", "clash"})


class WidestTest(unittest.TestCase):
    """A kind stands for a definition just where it is the told one with its blanks filled."""

    def test_all_small_kinds(self):
        r = random.Random(5)
        counts = {True: 0, False: 0}
        for _ in range(500):
            program = []
            for name in "fgh":
                ahead = [(other, many) for other, many, _ in program]
                many = r.randint(0, 2)
                program.append((name, many, programs.some_body(r, r.randint(1, 4), many, ahead, "ab")))
                if judged(program)[0] == "clash":
                    break
            told = judged(program)
            ahead = {program[k][0]: kind for k, kind in enumerate(told[1])}
            for k, definition in enumerate(program):
                kind = told[1][k] if k < len(told[1]) else None
                with self.subTest(program=program, number=k):
                    stands = self.check(definition, ahead, kind)
                    counts[True] += stands
                    counts[False] += len(standing.all_inputs(definition[1])) - stands
        self.assertGreater(min(counts.values()), 5000)

    def check(self, definition, ahead, kind):
        """Check all small kinds of the inputs; return for how many of them one stands."""
        many = 0
        for inputs in standing.all_inputs(definition[1]):
            try:
                result = standing.result_kind(definition[2], inputs, ahead)
            except standing.DoesNot:
                self.assertTrue(kind is None or fits(kind[0], inputs) is None)
                continue
            many += 1
            self.assertIsNotNone(kind)
            self.assertIsNotNone(fits([*kind[0], kind[1]], [*inputs, result]))
        return many


class MarksTest(unittest.TestCase):
    """The marks of a definition are kinds by which it stands."""

    def test_by_the_rules_of_what_stands(self):
        checked = 0
        for seed, program in enumerate(some_programs()):
            told = judged(program)[1]
            ahead = {definition[0]: kind for definition, kind in zip(program, told)}
            for number, kind in enumerate(told):
                body = program[number][2]
                marks = dict(zip(places_of(body), marked(program, number)))
                with self.subTest(seed=seed, number=number):
                    self.assertEqual(marks[()], kind[1])
                    for place, mark in marks.items():
                        checked += 1
                        self.assertIs(is_kind(mark), True)
                        self.check(at_place(body, place), place, marks, kind[0], ahead)
        self.assertGreater(checked, 5000)

    def check(self, body, place, marks, inputs, ahead):
        form, mark = body[0], marks[place]
        inner = [marks[place + (k,)] for k in range(60) if place + (k,) in marks]
        if form in ("number", "sum"):
            self.assertEqual([mark, *inner], [NUMBER] * (1 + len(inner)))
        elif form == "input":
            self.assertEqual(mark, inputs[body[1]])
        elif form == "make":
            row = tuple(sorted((label, kind) for (label, _), kind in zip(body[1], inner)))
            self.assertEqual(mark, ("record", row, None))
        elif form == "get":
            self.assertEqual(mark, dict(inner[0][1])[body[2]])
        elif form == "put":
            self.assertIn(body[2], dict(inner[0][1]))
            row = tuple(sorted({**dict(inner[0][1]), body[2]: inner[1]}.items()))
            self.assertEqual(mark, ("record", row, inner[0][2]))
        elif form == "if":
            self.assertEqual([NUMBER, mark, mark], inner)
        else:
            kinds = [*ahead[body[1]][0], ahead[body[1]][1]]
            fills = fits(kinds, [*inner, mark])
            self.assertEqual([filled(kind, fills) for kind in kinds], [*inner, mark])


class RunningTest(unittest.TestCase):
    """What is let by refuses no values of its kind, and comes to values of its kind."""

    def test_values_of_the_kind(self):
        runs = 0
        for seed, program in enumerate(some_programs()):
            r = random.Random(seed)
            for number, (inputs, result) in enumerate(judged(program)[1]):
                for _ in range(4):
                    values = [programs.some_value(r, kind) for kind in inputs]
                    with self.subTest(program=program, number=number, values=values):
                        self.assertTrue(all(is_of(value, kind) for value, kind in zip(values, inputs)))
                        self.assertIs(is_of(run(program, number, values), result), True)
                        runs += 1
        self.assertGreater(runs, 1500)


class AgainTest(unittest.TestCase):
    """What is told doesn't hang on what was asked or changed before."""

    def test_in_another_order_and_behind_changes(self):
        some = some_programs()[:80]
        held = repr(some)
        asked = [(judged, (program,)) for program in some]
        asked += [(marked, (program, number)) for program in some for number in range(len(program))]
        first = [answer(ask, *handed) for ask, handed in asked]
        told = repr(first)
        order = list(range(len(asked)))
        random.Random(1).shuffle(order)
        for k in order:
            ask, handed = asked[k]
            again = answer(ask, *handed)
            self.assertEqual(again, first[k])
            if isinstance(again, list):
                again.reverse()
                again.append(None)
            elif isinstance(again, tuple):
                again[1].clear()
        self.assertEqual(repr(first), told)
        self.assertEqual(repr(some), held)


if __name__ == "__main__":
    unittest.main()
