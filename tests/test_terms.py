"""Points 1, 2 and 4 to 6: parts, places, blanks and signs of terms."""

import unittest

from endmeet.errors import EndError, NoPlace, NoRank, NoRule, TooLong, TwoCounts
from endmeet.terms import blanks_of, part_at, parts_of, places_of, put_at, signs_of
from tests.samples import (
    HUGE, NIL, ONE, all_terms, count_of, depth_of, drawn_terms, great_term, placed, read_blanks,
)

TREE = ("tri", "X", ("pair", ("s", "Y"), NIL), ("s", "X"))
SAMPLES = ["X", NIL, TREE, great_term()] + all_terms("XY", 4) + drawn_terms(1, 150, "XYZ", 5)


class Parts(unittest.TestCase):
    def test_a_blank_has_one(self):
        self.assertEqual(parts_of("X"), 1)
        self.assertEqual(parts_of("A"), 1)
        self.assertEqual(parts_of("Z"), 1)

    def test_a_sign_without_parts_has_one(self):
        self.assertEqual(parts_of(("nil",)), 1)
        self.assertEqual(parts_of(("abcdefgh",)), 1)

    def test_signs_with_one_to_three_parts(self):
        self.assertEqual(parts_of(("s", "X")), 2)
        self.assertEqual(parts_of(("pair", "X", ("nil",))), 3)
        self.assertEqual(parts_of(("tri", "X", "X", "X")), 4)
        self.assertEqual(parts_of(TREE), 8)

    def test_forty_parts_fifteen_deep(self):
        self.assertEqual((count_of(great_term()), depth_of(great_term())), (40, 15))
        self.assertEqual(parts_of(great_term()), 40)

    def test_a_chain_fifteen_deep(self):
        term = NIL
        for many in range(2, 16):
            term = ("s", term)
            self.assertEqual(parts_of(term), many)

    def test_equal_parts_are_counted_each(self):
        twin = ("pair", NIL, NIL)
        self.assertEqual(parts_of(("pair", twin, twin)), 7)

    def test_many_terms(self):
        for term in SAMPLES:
            self.assertEqual(parts_of(term), count_of(term), term)
            self.assertIs(type(parts_of(term)), int)


class Places(unittest.TestCase):
    def test_written_out(self):
        self.assertEqual(places_of("X"), [()])
        self.assertEqual(places_of(NIL), [()])
        self.assertEqual(places_of(("s", "X")), [(), (0,)])
        self.assertEqual(
            places_of(TREE), [(), (0,), (1,), (1, 0), (1, 0, 0), (1, 1), (2,), (2, 0)])

    def test_a_list_of_tuples_of_whole_numbers_in_their_order(self):
        for term in SAMPLES:
            places = places_of(term)
            self.assertIs(type(places), list)
            self.assertEqual(places, sorted(placed(term)), term)
            self.assertEqual(places[0], ())
            for place in places:
                self.assertIs(type(place), tuple)
                self.assertTrue(all(type(number) is int for number in place))

    def test_the_told_list_is_the_askers_own(self):
        told = places_of(TREE)
        before = list(told)
        told.clear()
        again = places_of(TREE)
        self.assertEqual(again, before)
        places_of("X")
        self.assertEqual(again, before)


class PartAt(unittest.TestCase):
    def test_written_out(self):
        self.assertEqual(part_at(TREE, ()), TREE)
        self.assertEqual(part_at(TREE, (0,)), "X")
        self.assertEqual(part_at(TREE, (1,)), ("pair", ("s", "Y"), NIL))
        self.assertEqual(part_at(TREE, (1, 0, 0)), "Y")
        self.assertEqual(part_at(TREE, (1, 1)), NIL)
        self.assertEqual(part_at(TREE, (2, 0)), "X")
        self.assertEqual(part_at("X", ()), "X")
        self.assertEqual(part_at(NIL, ()), NIL)

    def test_every_place_of_many_terms(self):
        for term in SAMPLES:
            for place, part in placed(term).items():
                self.assertEqual(part_at(term, place), part)

    def test_the_same_asked_twice(self):
        self.assertEqual(part_at(TREE, (1, 0)), part_at(TREE, (1, 0)))


class PutAt(unittest.TestCase):
    def test_written_out(self):
        self.assertEqual(put_at("X", (), NIL), NIL)
        self.assertEqual(put_at(TREE, (), "Z"), "Z")
        self.assertEqual(
            put_at(TREE, (0,), "Z"), ("tri", "Z", ("pair", ("s", "Y"), NIL), ("s", "X")))
        self.assertEqual(
            put_at(TREE, (1, 0), ("pair", "A", "B")),
            ("tri", "X", ("pair", ("pair", "A", "B"), NIL), ("s", "X")))
        self.assertEqual(put_at(TREE, (1, 1), ONE), ("tri", "X", ("pair", ("s", "Y"), ONE), ("s", "X")))
        self.assertEqual(put_at(TREE, (2, 0), "Y"), ("tri", "X", ("pair", ("s", "Y"), NIL), ("s", "Y")))

    def test_at_every_place_everything_else_stays(self):
        new = ("pair", ("new",), "Q")
        for term in SAMPLES:
            for place in placed(term):
                expected = {at: part for at, part in placed(term).items() if at[:len(place)] != place}
                expected.update({place + at: part for at, part in placed(new).items()})
                made = placed(put_at(term, place, new))
                self.assertEqual(sorted(made), sorted(expected))
                for at, part in expected.items():
                    if place[:len(at)] != at:
                        self.assertEqual(made[at], part)
                    elif at != place:
                        self.assertEqual((made[at][0], len(made[at])), (part[0], len(part)))
                self.assertEqual(made[place], new)

    def test_the_part_put_where_it_stands_gives_the_term_again(self):
        for term in SAMPLES:
            for place, part in placed(term).items():
                self.assertEqual(put_at(term, place, part), term)

    def test_what_is_told_may_be_greater_than_what_is_handed_in(self):
        term = great_term()
        deepest = max(placed(term), key=len)
        made = put_at(term, deepest, term)
        self.assertEqual((parts_of(made), depth_of(made)), (79, 29))
        self.assertEqual(part_at(made, deepest), term)

    def test_what_is_handed_in_stays(self):
        term = ("pair", ("s", "X"), NIL)
        put_at(term, (0, 0), ONE)
        self.assertEqual(term, ("pair", ("s", "X"), ("nil",)))


class NoSuchPlace(unittest.TestCase):
    def refused(self, term, place):
        for ask in (lambda: part_at(term, place), lambda: put_at(term, place, NIL)):
            with self.assertRaises(NoPlace) as caught:
                ask()
            error = caught.exception
            self.assertEqual(error.place, place)
            self.assertIsInstance(error, EndError)
            self.assertIsInstance(error, ValueError)
            self.assertNotIsInstance(error, (NoRule, TwoCounts, TooLong, NoRank))

    def test_a_number_at_the_count_of_parts_or_above(self):
        for term in (("s", "X"), ("pair", "X", "Y"), ("tri", "X", "Y", "Z")):
            many = len(term) - 1
            self.assertEqual(part_at(term, (many - 1,)), term[-1])
            for number in (many, many + 1, HUGE):
                self.refused(term, (number,))

    def test_a_number_below_nought(self):
        for term in (("s", "X"), ("pair", "X", "Y"), ("tri", "X", "Y", "Z")):
            for number in (-1, -2, -3, -4, -HUGE):
                self.refused(term, (number,))

    def test_within_a_blank(self):
        for number in (0, 1, -1, HUGE, -HUGE):
            self.refused("X", (number,))
            self.refused(("s", "X"), (0, number))
        self.refused("X", (0, 0))

    def test_within_a_sign_without_parts(self):
        for number in (0, 1, -1, HUGE, -HUGE):
            self.refused(NIL, (number,))
            self.refused(("pair", "X", NIL), (1, number))

    def test_the_field_has_the_whole_place(self):
        self.refused(TREE, (1, 0, 0, 0))
        self.refused(TREE, (1, 2))
        self.refused(TREE, (1, -1, 0))
        self.refused(TREE, (3, 0, 0))
        self.refused(TREE, (-1, 0))
        self.refused(TREE, (1, HUGE, 0))
        self.refused(TREE, (-HUGE, HUGE))

    def test_every_place_just_beside_those_of_a_term(self):
        for term in SAMPLES[:60]:
            places = placed(term)
            for place in places:
                for number in (-1, 0, 1, 2, 3):
                    if place + (number,) not in places:
                        self.refused(term, place + (number,))


class Blanks(unittest.TestCase):
    def test_in_the_order_of_first_coming(self):
        self.assertEqual(blanks_of("X"), ["X"])
        self.assertEqual(blanks_of(NIL), [])
        self.assertEqual(blanks_of(("pair", "Y", "X")), ["Y", "X"])
        self.assertEqual(blanks_of(("pair", "X", "Y")), ["X", "Y"])
        self.assertEqual(blanks_of(("tri", ("s", ("s", "Z")), "A", "M")), ["Z", "A", "M"])
        self.assertEqual(blanks_of(("tri", ("pair", "C", "A"), "B", ("pair", "A", "D"))), ["C", "A", "B", "D"])
        self.assertEqual(blanks_of(great_term()), ["X", "Y", "A", "B", "C", "Z"])

    def test_each_once(self):
        self.assertEqual(blanks_of(("tri", "X", "X", "X")), ["X"])
        self.assertEqual(blanks_of(("tri", "Y", ("pair", "X", "Y"), "X")), ["Y", "X"])

    def test_many_terms(self):
        for term in SAMPLES:
            self.assertIs(type(blanks_of(term)), list)
            self.assertEqual(blanks_of(term), list(dict.fromkeys(read_blanks(term))))

    def test_the_told_list_is_the_askers_own(self):
        told = blanks_of(TREE)
        told.append("Q")
        again = blanks_of(TREE)
        self.assertEqual(again, ["X", "Y"])
        blanks_of(("s", "Q"))
        self.assertEqual(again, ["X", "Y"])


class Signs(unittest.TestCase):
    def test_of_none(self):
        self.assertEqual(signs_of([]), [])
        self.assertEqual(signs_of(["X"]), [])
        self.assertEqual(signs_of(["X", "Y"]), [])

    def test_of_one_term(self):
        self.assertEqual(signs_of([NIL]), ["nil"])
        self.assertEqual(signs_of([TREE]), ["nil", "pair", "s", "tri"])
        self.assertEqual(signs_of([("z", ("a",), ("m", "X"))]), ["a", "m", "z"])

    def test_of_several_each_once(self):
        self.assertEqual(signs_of([("s", NIL), "X", ("pair", NIL, ("s", "X"))]), ["nil", "pair", "s"])
        self.assertEqual(signs_of([("b",), ("a",), ("b",)]), ["a", "b"])

    def test_a_sign_that_is_the_beginning_of_another(self):
        self.assertEqual(signs_of([("ab", ("abc",)), ("a",), ("b",), ("aab",)]), ["a", "aab", "ab", "abc", "b"])
        self.assertEqual(signs_of([("pairs", ("pair",))]), ["pair", "pairs"])

    def test_many_terms(self):
        for start in range(0, len(SAMPLES), 5):
            terms = SAMPLES[start:start + 5]
            met = {part[0] for term in terms for part in placed(term).values() if not isinstance(part, str)}
            self.assertIs(type(signs_of(terms)), list)
            self.assertEqual(signs_of(terms), sorted(met))

    def test_the_list_handed_in_stays(self):
        terms = [("s", NIL), "X", NIL]
        signs_of(terms)
        self.assertEqual(terms, [("s", ("nil",)), "X", ("nil",)])

    def test_the_told_list_is_the_askers_own(self):
        told = signs_of([TREE])
        told.remove("pair")
        again = signs_of([TREE])
        self.assertEqual(again, ["nil", "pair", "s", "tri"])
        signs_of([ONE])
        self.assertEqual(again, ["nil", "pair", "s", "tri"])


if __name__ == "__main__":
    unittest.main()
