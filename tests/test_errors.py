"""Points 2 and 3: the refusals and their fields."""

import unittest

from endmeet.errors import EndError, NoPlace, NoRank, NoRule, TooLong, TwoCounts
from endmeet.terms import part_at, put_at
from tests.samples import NIL

RULE = (("s", "X"), "X")
FIELDS = (
    (NoPlace, "place", (0, 2)),
    (NoRule, "rule", ("X", NIL)),
    (TwoCounts, "sign", "s"),
    (TooLong, "term", ("s", NIL)),
    (NoRank, "rules", [RULE, RULE]),
)


class ErrorClasses(unittest.TestCase):
    def test_all_stand_under_end_error_and_none_under_another(self):
        self.assertTrue(issubclass(EndError, ValueError))
        for one, _, _ in FIELDS:
            self.assertTrue(issubclass(one, EndError), one)
            for other, _, _ in FIELDS:
                self.assertEqual(issubclass(one, other), one is other, (one, other))

    def test_end_error_stands_under_none_of_them(self):
        for one, _, _ in FIELDS:
            self.assertFalse(issubclass(EndError, one))

    def test_end_error_is_made_of_a_text(self):
        error = EndError("some words")
        self.assertEqual(str(error), "some words")
        with self.assertRaises(ValueError):
            raise error

    def test_a_class_with_a_field_is_made_of_it(self):
        for made, field, value in FIELDS:
            error = made(value)
            self.assertEqual(getattr(error, field), value)
            self.assertIs(type(getattr(error, field)), type(value))
            self.assertIsInstance(str(error), str)
            with self.assertRaises(EndError) as caught:
                raise error
            self.assertEqual(getattr(caught.exception, field), value)

    def test_each_object_has_its_own_field(self):
        first, second = NoPlace((1,)), NoPlace((2,))
        self.assertEqual((first.place, second.place), ((1,), (2,)))

    def test_a_field_is_taken_whatever_stands_in_it(self):
        for place in ((), (-1,), (10 ** 60 - 1, -(10 ** 60 - 1))):
            self.assertEqual(NoPlace(place).place, place)
        self.assertEqual(NoRank([]).rules, [])
        self.assertEqual(TooLong("X").term, "X")


class RefusedCalls(unittest.TestCase):
    def test_a_refused_call_changes_nothing(self):
        term = ("pair", "X", ("s", NIL))
        place = (1, 0, 0)
        for _ in range(3):
            for refused in (lambda: part_at(term, place), lambda: put_at(term, place, "Y")):
                with self.assertRaises(NoPlace):
                    refused()
            self.assertEqual(part_at(term, (1, 0)), NIL)
            self.assertEqual(put_at(term, (1, 0), "Y"), ("pair", "X", ("s", "Y")))
        self.assertEqual(term, ("pair", "X", ("s", ("nil",))))
        self.assertEqual(place, (1, 0, 0))

    def test_an_error_keeps_its_field_when_more_is_asked(self):
        with self.assertRaises(NoPlace) as first:
            part_at("X", (0,))
        with self.assertRaises(NoPlace) as second:
            part_at("X", (1,))
        self.assertEqual(first.exception.place, (0,))
        self.assertEqual(second.exception.place, (1,))


if __name__ == "__main__":
    unittest.main()
