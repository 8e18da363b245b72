"""Tests of fieldrest/forms.py."""

import unittest

from fieldrest.forms import at_place, places_of
from tests import bodies


def body_of(rows):
    """Return the body whose rows these are: the one at the place ()."""
    return rows[-1][1]


def places_in(rows):
    """Return the places of these rows, in their order."""
    return [place for place, _ in rows]


def stands_right(one, other):
    """Return whether the place `one` may be told ahead of the place `other`."""
    for number, another in zip(one, other):
        if number != another:
            return number < another
    return len(one) > len(other)


def first_unlike(told, due):
    """Return None, or where two lists differ first: a diff of long lists would take minutes."""
    for at, (one, other) in enumerate(zip(told, due)):
        if one != other:
            return (at, one, other)
    return None if len(told) == len(due) else (len(told), len(due))


class BodiesTest(unittest.TestCase):
    """The bodies of these tests are what their names say."""

    def test_sizes(self):
        many = {name: len(rows) for name, rows in bodies.GREAT.items()}
        self.assertEqual(many["60 places, in one make"], 60)
        self.assertEqual(many["60 places, of several forms"], 60)
        self.assertGreater(many["many more than 60 places"], 60)

    def test_depths(self):
        depths = {name: 1 + max(len(place) for place, _ in rows) for name, rows in bodies.ALL.items()}
        self.assertEqual(depths["number"], 1)
        self.assertEqual(depths["eight deep"], 8)
        self.assertGreater(depths["deeper and greater"], 8)

    def test_forms(self):
        forms = {body[0] for _, body in bodies.GREAT["eight deep"]}
        self.assertEqual(forms, {"number", "input", "make", "get", "put", "sum", "if", "call"})


class PlacesTest(unittest.TestCase):
    def test_places_in_their_order(self):
        for name, rows in bodies.ALL.items():
            with self.subTest(name=name):
                self.assertIsNone(first_unlike(places_of(body_of(rows)), places_in(rows)))

    def test_a_list_of_tuples_of_whole_numbers(self):
        for name, rows in bodies.ALL.items():
            with self.subTest(name=name):
                places = places_of(body_of(rows))
                self.assertIs(type(places), list)
                for place in places:
                    self.assertIs(type(place), tuple)
                    self.assertTrue(all(type(number) is int and number >= 0 for number in place))

    def test_each_once_and_the_body_itself_last(self):
        for name, rows in bodies.ALL.items():
            with self.subTest(name=name):
                places = places_of(body_of(rows))
                self.assertEqual(len(set(places)), len(places))
                self.assertEqual(places.count(()), 1)
                self.assertEqual(places[-1], ())

    def test_each_behind_those_within_it_and_number_0_first(self):
        for name, rows in bodies.ALL.items():
            with self.subTest(name=name):
                places = places_of(body_of(rows))
                for at, place in enumerate(places):
                    self.assertTrue(all(stands_right(place, later) for later in places[at + 1:]))

    def test_a_very_deep_body(self):
        body = ("number", 0)
        for _ in range(1500):
            body = ("get", body, "a")
        places = places_of(body)
        self.assertTrue(places[0] == (0,) * 1500)
        self.assertEqual(len(places), 1501)


class AtPlaceTest(unittest.TestCase):
    def test_at_every_place(self):
        for name, rows in bodies.ALL.items():
            for place, body in rows:
                with self.subTest(name=name, place=place):
                    self.assertTrue(at_place(body_of(rows), place) == body)

    def test_at_the_body_itself(self):
        for name, rows in bodies.ALL.items():
            with self.subTest(name=name):
                self.assertTrue(at_place(body_of(rows), ()) == body_of(rows))

    def test_step_by_step(self):
        rows = bodies.GREAT["eight deep"]
        for place, body in rows:
            for many in range(len(place) + 1):
                with self.subTest(place=place, many=many):
                    ahead = at_place(body_of(rows), place[:many])
                    self.assertTrue(at_place(ahead, place[many:]) == body)


class HeldApartTest(unittest.TestCase):
    """What is handed in stays as it was; what is told is the asker's own."""

    def test_what_was_told_is_changed(self):
        for name, rows in bodies.ALL.items():
            with self.subTest(name=name):
                told = places_of(body_of(rows))
                told.append((7,))
                told[0] = None
                told.reverse()
                self.assertIsNone(first_unlike(places_of(body_of(rows)), places_in(rows)))
                told.clear()
                self.assertIsNone(first_unlike(places_of(body_of(rows)), places_in(rows)))

    def test_what_was_told_stays_behind_later_calls(self):
        told = {name: places_of(body_of(rows)) for name, rows in bodies.ALL.items()}
        for rows in bodies.ALL.values():
            places_of(body_of(rows)).clear()
        for name, rows in bodies.ALL.items():
            with self.subTest(name=name):
                self.assertIsNone(first_unlike(told[name], places_in(rows)))

    def test_what_was_handed_in_stays(self):
        for name, rows in bodies.ALL.items():
            with self.subTest(name=name):
                body = body_of(rows)
                before = repr(body)
                for place in places_of(body):
                    held = repr(place)
                    at_place(body, place)
                    self.assertEqual(repr(place), held)
                self.assertTrue(repr(body) == before)


if __name__ == "__main__":
    unittest.main()
