"""Tests of fieldrest/kinds.py."""

import copy
import random
import unittest

from fieldrest.errors import BadFill, BadKind, TooGreat
from fieldrest.kinds import filled, fits, is_kind
from tests.shapes import NUMBER, blank, deep, nest, record, rest, wide

GOOD = {
    "a number": NUMBER,
    "a blank": blank(0),
    "a blank with a great number": blank(10 ** 30),
    "a record without fields": record(),
    "a record that has just a rest": record(7),
    "fields of every form": record(2, a=NUMBER, b=blank(0), c=record(x=blank(1))),
    "a label of 1 letter": record(z=NUMBER),
    "a label of 8 letters": record(abcdefgh=NUMBER),
    "labels spelled like forms": record(blank=NUMBER, number=NUMBER, record=NUMBER),
    "labels that rise by their later letters": record(a=NUMBER, aa=NUMBER, ab=NUMBER, b=NUMBER),
    "a blank that comes twice": record(a=blank(0), b=record(a=blank(0))),
    "a rest behind the same labels": record(a=record(0, x=NUMBER, y=blank(1)), b=record(0, x=blank(2), y=NUMBER)),
    "a rest within itself, behind the same labels": record(0, a=record(0, a=NUMBER)),
    "a rest that comes twice behind no labels": record(a=record(0), b=record(0)),
    "200 knots in one record": wide(199),
    "200 knots, some deeper": record(a=wide(98), b=wide(99)),
    "12 deep, a number within": deep(11),
    "12 deep, a record within": deep(11, record(3)),
}

# What hasn't the form of a kind.
UNFORMED = {
    "None": None,
    "True": True,
    "a number": 0,
    "a text": "number",
    "an empty tuple": (),
    "a list": ["number"],
    "a list of a blank": ["blank", 0],
    "a list of a record": ["record", (), None],
    "a form that there isn't": ("rest", 0),
    "a tuple in the form's place": (("number",),),
    "None in the form's place": (None,),
    "a number with a part": ("number", 0),
    "a number with None": ("number", None),
    "a blank without a number": ("blank",),
    "a blank with two": ("blank", 0, 1),
    "a blank's number below 0": blank(-1),
    "a blank of True": blank(True),
    "a blank of False": blank(False),
    "a blank of None": blank(None),
    "a blank of a text": blank("0"),
    "a blank of a tuple": blank((0,)),
    "a record without parts": ("record",),
    "a record without a rest": ("record", ()),
    "a record with a part more": ("record", (), None, None),
    "a rest below 0": record(-1),
    "a rest of True": record(True),
    "a rest of False": record(False),
    "a rest of a text": record("r"),
    "a rest of a tuple": record(()),
    "fields that are a list": ("record", [], None),
    "fields that are a list, with one": ("record", [("a", NUMBER)], None),
    "fields that are None": ("record", None, None),
    "fields that are a text": ("record", "", None),
    "fields that are a number": ("record", 0, None),
    "a field that is a list": ("record", (["a", NUMBER],), None),
    "a field that is a text": ("record", ("ab",), None),
    "a field that is None": ("record", (None,), None),
    "a field without a kind": ("record", (("a",),), None),
    "a field with two kinds": ("record", (("a", NUMBER, NUMBER),), None),
    "a field of no kind": record(a=0),
    "a field of a list": record(a=["number"]),
    "a field of None": record(a=None),
    "a label of no letters": record(**{"": NUMBER}),
    "a label of 9 letters": record(abcdefghi=NUMBER),
    "a label with a capital": record(aB=NUMBER),
    "a label with a digit": record(a1=NUMBER),
    "a label with a line": record(a_b=NUMBER),
    "a label with a blank": record(**{"a b": NUMBER}),
    "a label with a line feed": record(**{"ab\n": NUMBER}),
    "a label with another alphabet's letter": record(**{"\u0430": NUMBER}),
    "a label with an accent": record(**{"\u00e9": NUMBER}),
    "a label that is a number": ("record", ((1, NUMBER),), None),
    "a label that is None": ("record", ((None, NUMBER),), None),
    "a label that is a tuple": ("record", ((("a",), NUMBER),), None),
    "labels that fall": ("record", (("b", NUMBER), ("a", NUMBER)), None),
    "labels that fall at last": ("record", (("a", NUMBER), ("c", NUMBER), ("b", NUMBER)), None),
    "a longer label ahead of its beginning": ("record", (("aa", NUMBER), ("a", NUMBER)), None),
    "a label twice": ("record", (("a", NUMBER), ("a", NUMBER)), None),
    "labels that fall further in": record(a=("record", (("b", NUMBER), ("a", NUMBER)), None)),
    "13 deep, a number within": deep(12),
    "13 deep, a record within": deep(12, record()),
    "13 deep behind what isn't": record(a=NUMBER, b=deep(11), c=NUMBER),
    "90 tuples in tuples": nest(lambda thing: (thing,), 90, ()),
    "90 lists in lists": nest(lambda thing: [thing], 90, []),
    "a record 30 deep": deep(29),
    "a field of 90 tuples in tuples": record(a=nest(lambda thing: (thing,), 85, "number")),
    "a rest of 90 lists in lists": record(nest(lambda thing: [thing], 85, 0)),
    "30 deep and far more knots than can be counted": nest(lambda kind: record(a=kind, b=kind), 29, NUMBER),
}

# What has the form, but numbers otherwise than they may stand.
MISPLACED = {
    "a number that stands as a blank and as its record's rest": record(0, a=blank(0)),
    "a number that stands as a rest, then as a blank": record(a=record(0), b=blank(0)),
    "a number that stands as a blank, then as a rest": record(a=blank(5), b=record(5, x=NUMBER)),
    "a rest behind two unlike rows of labels": record(a=record(0, x=NUMBER), b=record(0, y=NUMBER)),
    "a rest behind labels and behind none": record(a=record(0), b=record(0, x=NUMBER)),
    "a rest behind labels and behind fewer": record(a=record(0, x=NUMBER, y=NUMBER), b=record(0, x=NUMBER)),
    "a rest within itself, behind other labels": record(0, a=record(0)),
}

# What has the form, but too many knots.
LARGE = {
    "201 knots in one record": wide(200),
    "201 knots, some deeper": record(a=wide(99), b=wide(99)),
    "12 deep and far more knots than can be counted": nest(lambda kind: wide(60, kind), 11, NUMBER),
}

BAD = {**UNFORMED, **MISPLACED, **LARGE}


class IsKindTest(unittest.TestCase):
    def test_kinds(self):
        for name, thing in GOOD.items():
            with self.subTest(name=name):
                self.assertIs(is_kind(thing), True)

    def test_what_is_no_kind(self):
        for name, thing in BAD.items():
            with self.subTest(name=name):
                self.assertIs(is_kind(thing), False)

    def test_what_is_no_kind_within_one(self):
        for name, thing in BAD.items():
            with self.subTest(name=name):
                self.assertIs(is_kind(record(a=NUMBER, b=thing, c=NUMBER)), False)


class FilledTest(unittest.TestCase):
    def test_blanks(self):
        self.assertEqual(filled(blank(0), {0: NUMBER}), NUMBER)
        self.assertEqual(filled(blank(3), {3: record(4, a=blank(5))}), record(4, a=blank(5)))
        self.assertEqual(filled(NUMBER, {}), NUMBER)

    def test_a_blank_wherever_it_stands(self):
        kind = record(9, a=blank(1), b=record(c=blank(1), d=blank(2)), e=blank(1))
        due = record(9, a=record(x=NUMBER), b=record(c=record(x=NUMBER), d=blank(2)), e=record(x=NUMBER))
        self.assertEqual(filled(kind, {1: record(x=NUMBER)}), due)

    def test_a_rest_without_a_further_one(self):
        self.assertEqual(filled(record(0), {0: rest()}), record())
        self.assertEqual(filled(record(0, b=NUMBER), {0: rest(a=blank(1))}), record(a=blank(1), b=NUMBER))

    def test_a_rest_with_a_further_one(self):
        self.assertEqual(filled(record(0), {0: rest(5)}), record(5))
        kind = record(0, b=NUMBER, d=blank(1))
        due = record(0, a=NUMBER, b=NUMBER, c=record(2), d=blank(1), e=NUMBER)
        self.assertEqual(filled(kind, {0: rest(0, a=NUMBER, c=record(2), e=NUMBER)}), due)

    def test_a_rest_wherever_it_stands(self):
        kind = record(a=record(0, y=NUMBER), b=record(0, y=blank(1)))
        fills = {0: rest(7, x=NUMBER, z=blank(1)), 1: NUMBER}
        there = record(7, x=NUMBER, y=NUMBER, z=blank(1))
        self.assertEqual(filled(kind, fills), record(a=there, b=there))

    def test_fields_rise_at_every_depth(self):
        kind = record(0, m=record(1, m=blank(2)))
        fills = {0: rest(3, a=NUMBER, z=NUMBER), 1: rest(4, b=NUMBER, y=NUMBER), 2: record(c=NUMBER, x=NUMBER)}
        inner = record(4, b=NUMBER, m=record(c=NUMBER, x=NUMBER), y=NUMBER)
        self.assertEqual(filled(kind, fills), record(3, a=NUMBER, m=inner, z=NUMBER))

    def test_blanks_that_are_not_filled_stay(self):
        kind = record(1, a=blank(0), b=record(3, x=blank(2)))
        self.assertEqual(filled(kind, {}), kind)
        self.assertEqual(filled(kind, {2: NUMBER}), record(1, a=blank(0), b=record(3, x=NUMBER)))
        self.assertEqual(filled(kind, {3: rest()}), record(1, a=blank(0), b=record(x=blank(2))))

    def test_what_fills_is_not_filled_itself(self):
        kind = record(a=blank(0), b=blank(1))
        self.assertEqual(filled(kind, {0: blank(1), 1: blank(0)}), record(a=blank(1), b=blank(0)))
        self.assertEqual(filled(blank(0), {0: record(a=blank(0))}), record(a=blank(0)))
        self.assertEqual(filled(record(0), {0: rest(0, a=record(0, a=NUMBER))}), record(0, a=record(0, a=NUMBER)))
        self.assertEqual(filled(kind, {0: record(1), 1: NUMBER}), record(a=record(1), b=NUMBER))

    def test_fills_of_numbers_that_do_not_stand_are_passed_over(self):
        kind = record(1, a=blank(0))
        fills = {2: NUMBER, 3: None, 4: deep(20), 5: rest(0), -1: [], 6: blank(1), 7: wide(300), 0: NUMBER}
        self.assertEqual(filled(kind, fills), record(1, a=NUMBER))
        self.assertEqual(filled(NUMBER, {0: "nothing"}), NUMBER)

    def test_the_kinds_that_come_are_just_within_the_limits(self):
        self.assertEqual(filled(wide(199, blank(0)), {0: NUMBER}), wide(199))
        self.assertEqual(filled(record(0), {0: (wide(199)[1], None)}), wide(199))
        self.assertEqual(filled(deep(11, blank(0)), {0: record()}), deep(11, record()))
        self.assertEqual(filled(blank(0), {0: deep(11)}), deep(11))
        self.assertEqual(filled(deep(5, blank(0)), {0: deep(6)}), deep(11))


class RefusedFillsTest(unittest.TestCase):
    def refuses(self, error, kind, fills):
        with self.assertRaises(error) as held:
            filled(kind, fills)
        self.assertIs(type(held.exception), error)

    def test_no_kind(self):
        for name, thing in BAD.items():
            with self.subTest(name=name):
                self.refuses(BadKind, thing, {})

    def test_no_kind_is_ahead_of_all_others(self):
        self.refuses(BadKind, record(0, a=blank(0)), {0: None})
        self.refuses(BadKind, wide(200, blank(0)), {0: deep(6)})
        self.refuses(BadKind, record(a=record(0, x=NUMBER), b=record(0, y=NUMBER)), {0: rest(x=NUMBER)})

    def test_a_fill_without_the_form_of_a_kind(self):
        again = {**UNFORMED, "a rest's fill": rest(a=NUMBER), "a rest's fill with a rest": rest(1)}
        for name, thing in again.items():
            with self.subTest(name=name):
                self.refuses(BadFill, blank(0), {0: thing})
                self.refuses(BadFill, record(a=NUMBER, b=blank(0)), {0: record(a=thing)})

    def test_a_fill_without_the_form_of_a_rest(self):
        wrong = {
            "None": None, "a number": 0, "True": True, "a text": "ab", "a label": "a", "an empty tuple": (),
            "fields alone": ((),), "three": ((), None, None), "a list": [(), None], "fields in a list": ([], None),
            "fields that are None": (None, None), "a kind that is a number": NUMBER, "a blank": blank(1),
            "a record": record(), "a rest below 0": rest(-1), "a rest of True": rest(True), "a rest's text": rest("r"),
            "a rest that is a tuple": rest(()), "a field of None": rest(a=None), "of a list": rest(a=["number"]),
            "labels that fall": ((("b", NUMBER), ("a", NUMBER)), None), "a label twice": ((("a", NUMBER),) * 2, None),
            "a label of 9 letters": rest(abcdefghi=NUMBER), "a label of none": rest(**{"": NUMBER}),
            "a pair that is a list": ((["a", NUMBER],), None), "no pair": ((("a",),), None),
            "a field without the form": rest(a=record(b=("number", 0))), "labels that fall within": rest(
                a=("record", (("b", NUMBER), ("a", NUMBER)), None)), "13 deep": rest(a=deep(11)),
        }
        for name, thing in wrong.items():
            with self.subTest(name=name):
                self.refuses(BadFill, record(0), {0: thing})
                self.refuses(BadFill, record(a=record(0, m=NUMBER), b=blank(1)), {0: thing, 1: NUMBER})

    def test_a_label_that_stands_ahead(self):
        self.refuses(BadFill, record(0, a=NUMBER), {0: rest(a=NUMBER)})
        self.refuses(BadFill, record(0, b=NUMBER), {0: rest(1, a=NUMBER, b=NUMBER, c=NUMBER)})
        self.refuses(BadFill, record(x=record(0, a=blank(1))), {0: rest(a=blank(1))})
        self.assertEqual(filled(record(0, a=NUMBER), {0: rest(b=record(a=NUMBER))}),
                         record(a=NUMBER, b=record(a=NUMBER)))

    def test_what_comes_is_too_great(self):
        self.refuses(TooGreat, blank(0), {0: LARGE["201 knots in one record"]})
        self.refuses(TooGreat, blank(0), {0: LARGE["201 knots, some deeper"]})
        self.refuses(TooGreat, wide(199, blank(0)), {0: record(x=NUMBER)})
        self.refuses(TooGreat, record(a=wide(98, last=0), b=wide(99)), {0: rest(zz=NUMBER)})
        self.refuses(TooGreat, blank(0), {0: wide(200)})
        self.refuses(TooGreat, record(0), {0: (wide(200)[1], None)})
        self.refuses(TooGreat, record(a=blank(0), b=blank(0)), {0: wide(99)})
        self.refuses(TooGreat, deep(11, blank(0)), {0: record(a=NUMBER)})
        self.refuses(TooGreat, deep(11, record(0)), {0: rest(a=NUMBER)})
        self.refuses(TooGreat, deep(6, blank(0)), {0: deep(6)})
        self.refuses(TooGreat, deep(1, blank(0)), {0: deep(11)})
        self.refuses(TooGreat, wide(199, blank(0)), {0: wide(500)})

    def test_the_form_is_ahead_of_too_great(self):
        kind = wide(199, blank(0), last=1)
        self.refuses(BadFill, kind, {0: record(x=NUMBER), 1: rest(aa=NUMBER)})
        self.refuses(BadFill, kind, {0: record(x=NUMBER), 1: None})
        self.refuses(BadFill, kind, {0: wide(10, None)})
        self.refuses(BadFill, record(a=blank(0), b=blank(1)), {0: wide(200), 1: "number"})
        self.refuses(BadFill, blank(0), {0: ("record", wide(300)[1] + (("zz", None),), None)})
        self.refuses(BadFill, blank(0), {0: deep(12)})
        self.refuses(BadFill, deep(11, blank(0)), {0: deep(12)})
        self.refuses(BadFill, blank(0), {0: deep(40)})
        self.refuses(BadFill, record(0), {0: rest(a=deep(11))})
        self.refuses(TooGreat, record(a=record(0)), {0: rest(a=deep(10))})

    def test_a_number_that_stands_otherwise_in_what_comes(self):
        self.refuses(BadFill, record(a=blank(0), b=blank(1)), {0: record(1)})
        self.refuses(BadFill, record(1, a=blank(0)), {0: blank(1)})
        self.refuses(BadFill, record(a=record(0, x=NUMBER), b=record(1, y=NUMBER)), {0: rest(1)})
        self.refuses(BadFill, record(a=record(0, x=NUMBER), b=blank(1)), {1: record(0)})
        self.refuses(BadFill, blank(0), {0: record(1, a=blank(1))})
        self.refuses(BadFill, blank(0), {0: record(a=record(1, x=NUMBER), b=record(1, y=NUMBER))})
        self.refuses(BadFill, record(0), {0: rest(1, a=record(1))})
        self.refuses(BadFill, record(0), {0: rest(0, a=blank(0))})

    def test_a_number_that_stands_otherwise_in_a_fill_alone(self):
        # It stands as it may in what comes, as the fill is put together with what stands ahead there.
        kind = record(a=record(0, x=NUMBER), b=record(1, y=NUMBER))
        fills = {0: rest(2, y=NUMBER), 1: rest(2, x=blank(3))}
        due = record(a=record(2, x=NUMBER, y=NUMBER), b=record(2, x=blank(3), y=NUMBER))
        self.assertEqual(filled(kind, fills), due)
        again = record(5, a=blank(0), b=NUMBER)
        self.assertEqual(filled(again, {0: record(1, a=NUMBER, b=NUMBER), 5: rest(1)}),
                         record(1, a=record(1, a=NUMBER, b=NUMBER), b=NUMBER))
        self.refuses(BadFill, again, {0: record(1, a=NUMBER), 5: rest(1)})

    def test_a_fill_whose_numbers_stand_otherwise(self):
        for name, thing in MISPLACED.items():
            with self.subTest(name=name):
                self.refuses(BadFill, blank(9), {9: thing})
                self.refuses(TooGreat, record(a=blank(9), b=blank(8)), {9: thing, 8: wide(199)})

    def test_too_great_is_ahead_of_where_numbers_stand(self):
        self.refuses(TooGreat, record(a=blank(0), b=blank(1)), {0: wide(199, last=1)})
        self.refuses(TooGreat, blank(0), {0: wide(200, blank(1), last=1)})
        self.refuses(TooGreat, deep(11, blank(0)), {0: record(a=blank(1), b=record(1))})
        self.refuses(BadFill, record(a=blank(0), b=blank(1)), {0: wide(197, last=1)})
        self.assertEqual(filled(record(a=blank(0), b=blank(1)), {0: wide(197, last=2)})[1][0][1], wide(197, last=2))


class FitsTest(unittest.TestCase):
    def test_numbers_and_blanks(self):
        self.assertEqual(fits([], []), {})
        self.assertEqual(fits([NUMBER], [NUMBER]), {})
        self.assertEqual(fits([blank(0)], [NUMBER]), {0: NUMBER})
        self.assertEqual(fits([blank(2), blank(1)], [blank(1), blank(2)]), {2: blank(1), 1: blank(2)})
        self.assertEqual(fits([blank(4)], [record(4, a=blank(0))]), {4: record(4, a=blank(0))})

    def test_rows_are_lists_or_tuples(self):
        self.assertEqual(fits((blank(0), NUMBER), [record(), NUMBER]), {0: record()})
        self.assertEqual(fits([blank(0)], (NUMBER,)), {0: NUMBER})
        self.assertEqual(fits((), ()), {})

    def test_records(self):
        self.assertEqual(fits([record()], [record()]), {})
        self.assertEqual(fits([record(a=blank(0), b=NUMBER)], [record(a=record(3), b=NUMBER)]), {0: record(3)})

    def test_rests(self):
        self.assertEqual(fits([record(0)], [record()]), {0: rest()})
        self.assertEqual(fits([record(0)], [record(9)]), {0: rest(9)})
        self.assertEqual(fits([record(0)], [record(9, a=blank(0))]), {0: rest(9, a=blank(0))})
        kind = record(1, b=blank(0))
        other = record(a=NUMBER, b=record(), c=blank(2))
        self.assertEqual(fits([kind], [other]), {0: record(), 1: rest(a=NUMBER, c=blank(2))})

    def test_a_blank_that_comes_twice(self):
        kinds = [blank(0), record(a=blank(0))]
        self.assertEqual(fits(kinds, [record(1, x=NUMBER), record(a=record(1, x=NUMBER))]), {0: record(1, x=NUMBER)})
        self.assertIsNone(fits(kinds, [NUMBER, record(a=record())]))
        self.assertIsNone(fits(kinds, [blank(0), record(a=blank(1))]))
        self.assertIsNone(fits(kinds, [record(0), record(a=record(1))]))

    def test_a_rest_that_comes_twice(self):
        kinds = [record(0, a=blank(1)), record(0, a=NUMBER)]
        self.assertEqual(fits(kinds, [record(5, a=record(), b=NUMBER), record(5, a=NUMBER, b=NUMBER)]),
                         {0: rest(5, b=NUMBER), 1: record()})
        self.assertIsNone(fits(kinds, [record(5, a=NUMBER, b=NUMBER), record(a=NUMBER, b=NUMBER)]))
        self.assertIsNone(fits(kinds, [record(a=NUMBER, b=NUMBER), record(a=NUMBER)]))
        self.assertIsNone(fits(kinds, [record(a=NUMBER, b=NUMBER), record(a=NUMBER, b=record())]))
        self.assertIsNone(fits(kinds, [record(a=NUMBER, b=NUMBER), record(a=NUMBER, c=NUMBER)]))

    def test_none(self):
        for kind, other in [
            (NUMBER, blank(0)), (NUMBER, record()), (record(), NUMBER), (record(), blank(0)), (record(0), NUMBER),
            (record(0), blank(0)), (record(), record(0)), (record(), record(a=NUMBER)), (record(a=NUMBER), record()),
            (record(a=NUMBER), record(0)), (record(0, a=NUMBER), record()), (record(0, a=NUMBER), record(0)),
            (record(0, a=NUMBER), record(b=NUMBER)), (record(a=NUMBER), record(b=NUMBER)),
            (record(a=NUMBER), record(0, a=NUMBER)), (record(a=NUMBER), record(a=NUMBER, b=NUMBER)),
            (record(a=NUMBER, b=NUMBER), record(a=NUMBER)), (record(a=NUMBER), record(a=record())),
            (record(0, a=record(b=NUMBER)), record(a=record(b=blank(0)), b=NUMBER)),
        ]:
            with self.subTest(kind=kind, other=other):
                self.assertIsNone(fits([kind], [other]))
                self.assertIsNone(fits([blank(8), record(x=kind)], [NUMBER, record(x=other)]))

    def test_none_of_another_number_of_kinds(self):
        self.assertIsNone(fits([], [NUMBER]))
        self.assertIsNone(fits([NUMBER], []))
        self.assertIsNone(fits([blank(0)], [NUMBER, NUMBER]))
        self.assertIsNone(fits([blank(0), blank(1)], [NUMBER]))

    def test_no_kind(self):
        for name, thing in BAD.items():
            with self.subTest(name=name):
                for kinds, others in [([thing], [NUMBER]), ([NUMBER], [thing]), ([record()], [NUMBER, thing]),
                                      ([NUMBER, thing], []), ([], (thing,)), ([thing], [thing])]:
                    with self.assertRaises(BadKind):
                        fits(kinds, others)

    def test_numbers_that_stand_otherwise_in_a_row(self):
        for row in [[blank(0), record(0)], [record(0, a=NUMBER), record(0, b=NUMBER)], [record(0), record(a=blank(0))],
                    [record(a=record(1)), NUMBER, record(b=record(1, x=NUMBER))]]:
            with self.subTest(row=row):
                for kinds, others in [(row, [NUMBER] * len(row)), ([NUMBER] * len(row), row), (row, []), ([], row)]:
                    with self.assertRaises(BadKind):
                        fits(kinds, tuple(others))

    def test_knots_of_a_row_together(self):
        row = [wide(99), wide(99)]
        self.assertEqual(fits(row, row), {})
        self.assertEqual(fits([blank(0), blank(0)], row), {0: wide(99)})
        for great in (row + [NUMBER], [wide(99), wide(100)], [NUMBER] * 201, [wide(199), NUMBER]):
            for kinds, others in [(great, great), (great, []), ([NUMBER], great)]:
                with self.assertRaises(BadKind):
                    fits(kinds, others)
        self.assertEqual(fits([NUMBER] * 200, [NUMBER] * 200), {})
        # Both rows together may have more.
        self.assertEqual(fits([wide(199, blank(0))], [wide(199)]), {0: NUMBER})

    def test_the_numbers_of_the_two_rows_have_nothing_to_do_with_each_other(self):
        self.assertEqual(fits([blank(0), record(1)], [record(0), record(0)]), {0: record(0), 1: rest(0)})
        self.assertEqual(fits([blank(0), record(1)], [blank(1), record(0)]), {0: blank(1), 1: rest(0)})
        self.assertEqual(fits([blank(0), blank(1)], [record(1), record(1)]), {0: record(1), 1: record(1)})


def some_kind(r, depth, rests):
    """Return a kind of some size; `rests` has for the number of a rest the labels that it always stands behind."""
    form = r.choice(["number", "blank", "record", "record"]) if depth > 1 else r.choice(["number", "blank"])
    if form == "number":
        return NUMBER
    if form == "blank":
        return blank(r.randrange(4))
    number = r.choice([None, 4, 5, 6])
    names = r.sample("abcd", r.randrange(4))
    if number is not None:
        names = rests.setdefault(number, names)
    return record(number, **{name: some_kind(r, depth - 1, rests) for name in names})


def fill_for(r, number, rests):
    """Return something that may fill the number, with numbers of its own."""
    mine = {20 + k: [] for k in (4, 5, 6)}
    fill = nest(lambda kind: record(r.choice([None, 24]), **{r.choice("xyz"): kind}), r.randrange(3), blank(20))
    if number < 4:
        return fill if r.random() < 0.5 else some_kind(r, 2, {4: ["q"], 5: ["q"], 6: ["q"]})
    return (tuple(sorted({name: fill for name in r.sample("efgh", r.randrange(3))}.items())), r.choice([None, *mine]))


class TogetherTest(unittest.TestCase):
    def test_each_kind_filled_with_the_fills_is_the_other(self):
        r = random.Random(20)
        fitting = 0
        for _ in range(3000):
            rests = {}
            kinds = [some_kind(r, 4, rests) for _ in range(r.randrange(1, 4))]
            fills = {n: fill_for(r, n, rests) for n in range(7)}
            try:
                others = [filled(kind, fills) for kind in kinds]
                found = fits(kinds, others)
            except (BadFill, BadKind, TooGreat):
                continue
            fitting += 1
            self.assertIs(type(found), dict)
            self.assertEqual([filled(kind, found) for kind in kinds], others)
            self.assertEqual(found, {n: fills[n] for n in found})
            self.assertEqual([filled(kind, dict.fromkeys(set(range(9)) - set(found))) for kind in kinds], kinds)
        self.assertGreater(fitting, 500)

    def test_where_there_is_none(self):
        r = random.Random(21)
        told = {True: 0, False: 0}
        for _ in range(3000):
            kinds, others = [[some_kind(r, 3, rests) for _ in range(2)] for rests in ({}, {})]
            try:
                found = fits(kinds, others)
            except BadKind:
                continue
            told[found is None] += 1
            if found is not None:
                self.assertEqual([filled(kind, found) for kind in kinds], others)
        self.assertGreater(min(told.values()), 50)


class HeldApartTest(unittest.TestCase):
    """What is handed in stays as it was, and may change behind the call; what is told is the asker's own."""

    def test_filled(self):
        kind = record(1, a=blank(0), b=record(2))
        fills = {0: record(a=NUMBER), 1: rest(3, c=NUMBER), 9: [1, [2]], 2: rest()}
        before = copy.deepcopy(fills)
        told = filled(kind, fills)
        due = record(3, a=record(a=NUMBER), b=record(), c=NUMBER)
        self.assertEqual(told, due)
        self.assertEqual(fills, before)
        self.assertEqual(list(fills), list(before))
        self.assertEqual(kind, record(1, a=blank(0), b=record(2)))
        fills[0] = NUMBER
        fills[9].append(3)
        del fills[1]
        self.assertEqual(told, due)
        self.assertEqual(filled(kind, before), due)

    def test_refused_fills_stay(self):
        fills = {0: [1], 1: None}
        with self.assertRaises(BadFill):
            filled(record(1, a=blank(0)), fills)
        self.assertEqual(fills, {0: [1], 1: None})

    def test_fits(self):
        kinds, others = [blank(0), record(1)], [NUMBER, record(2, a=NUMBER)]
        told = fits(kinds, others)
        due = {0: NUMBER, 1: rest(2, a=NUMBER)}
        self.assertEqual(told, due)
        self.assertEqual((kinds, others), ([blank(0), record(1)], [NUMBER, record(2, a=NUMBER)]))
        again = fits(kinds, others)
        told[0] = record()
        del told[1]
        self.assertEqual(again, due)
        self.assertEqual(fits(kinds, others), due)
        kinds.clear()
        others[0] = record()
        self.assertEqual(again, due)

    def test_is_kind(self):
        thing = ["record", [["a", ["number"]]], None]
        before = copy.deepcopy(thing)
        self.assertIs(is_kind(thing), False)
        self.assertEqual(thing, before)


if __name__ == "__main__":
    unittest.main()
