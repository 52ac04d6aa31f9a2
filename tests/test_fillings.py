"""Points 1 and 7 to 9: filling terms, fitting patterns, making terms alike."""

import itertools
import random
import unittest

from endmeet.fillings import filled, fits, made_alike
from tests.samples import (
    NIL, ONE, all_terms, count_of, drawn_terms, great_term, matched, opened_term, placed, read_blanks, replaced,
)


class Filled(unittest.TestCase):
    def test_written_out(self):
        self.assertEqual(filled("X", {"X": NIL}), NIL)
        self.assertEqual(filled(NIL, {"X": ONE}), NIL)
        self.assertEqual(filled(("pair", "X", ("s", "X")), {"X": NIL}), ("pair", NIL, ("s", NIL)))
        self.assertEqual(
            filled(("tri", "X", "Y", "Z"), {"X": NIL, "Y": "A", "Z": ("s", "B")}), ("tri", NIL, "A", ("s", "B")))

    def test_in_one_go(self):
        self.assertEqual(filled("X", {"X": ("s", "X")}), ("s", "X"))
        self.assertEqual(filled("X", {"X": "Y", "Y": NIL}), "Y")
        self.assertEqual(filled("Y", {"X": NIL, "Y": "X"}), "X")
        swap = {"X": "Y", "Y": "X"}
        self.assertEqual(filled(("pair", "X", "Y"), swap), ("pair", "Y", "X"))
        turn = {"X": ("s", "Y"), "Y": ("pair", "X", "Y")}
        self.assertEqual(filled(("pair", "Y", "X"), turn), ("pair", ("pair", "X", "Y"), ("s", "Y")))

    def test_a_blank_that_the_filling_lacks(self):
        self.assertEqual(filled(("pair", "X", "Y"), {"X": NIL}), ("pair", NIL, "Y"))
        self.assertEqual(filled("Y", {"X": NIL}), "Y")

    def test_a_blank_that_the_term_lacks(self):
        self.assertEqual(filled(("s", "X"), {"X": NIL, "Q": ONE}), ("s", NIL))
        self.assertEqual(filled(("s", "X"), {"Q": ONE}), ("s", "X"))

    def test_an_empty_filling(self):
        for term in ("X", NIL, great_term()):
            self.assertEqual(filled(term, {}), term)

    def test_what_is_told_may_be_greater_than_what_is_handed_in(self):
        deep = great_term()
        made = filled(deep, {"X": deep, "Y": deep})
        self.assertEqual(count_of(made), 40 + 6 * 39)
        self.assertEqual(made, replaced(deep, {"X": deep, "Y": deep}))

    def test_many_terms(self):
        terms = drawn_terms(2, 120, "XYZ", 5)
        for one, other, term in zip(terms, terms[1:], terms[2:]):
            for filling in ({"X": one, "Y": other}, {"Z": one}, {"Y": one, "Q": other}):
                self.assertEqual(filled(term, filling), replaced(term, filling))

    def test_the_filling_stays(self):
        filling = {"X": ("s", "Y"), "Y": NIL}
        for _ in range(2):
            self.assertEqual(filled(("pair", "X", "Q"), filling), ("pair", ("s", "Y"), "Q"))
            self.assertEqual(filling, {"X": ("s", "Y"), "Y": ("nil",)})

    def test_another_filling_is_not_mixed_up_with_an_earlier_one(self):
        term = ("pair", "X", "Y")
        self.assertEqual(filled(term, {"X": NIL}), ("pair", NIL, "Y"))
        self.assertEqual(filled(term, {"Y": NIL}), ("pair", "X", NIL))
        filling = {"X": NIL}
        filled(term, filling)
        filling["X"] = ONE
        self.assertEqual(filled(term, filling), ("pair", ONE, "Y"))


class Fits(unittest.TestCase):
    def test_just_the_blanks_of_the_pattern(self):
        self.assertEqual(fits("X", NIL), {"X": NIL})
        self.assertEqual(fits(NIL, NIL), {})
        self.assertEqual(fits(("pair", "X", "Y"), ("pair", NIL, ("s", ONE))), {"X": NIL, "Y": ("s", ONE)})
        self.assertEqual(fits(("pair", "X", NIL), ("pair", ("s", "Q"), NIL)), {"X": ("s", "Q")})
        self.assertEqual(fits("X", great_term()), {"X": great_term()})

    def test_unlike_signs(self):
        self.assertIsNone(fits(NIL, ONE))
        self.assertIsNone(fits(("s", "X"), ("t", NIL)))
        self.assertIsNone(fits(("pair", "X", ("s", "Y")), ("pair", NIL, ("t", NIL))))
        self.assertIsNone(fits(("pair", ("s", "Y"), "X"), ("pair", ("t", NIL), NIL)))

    def test_unlike_counts_of_parts(self):
        self.assertIsNone(fits(("f", "X"), ("f", NIL, NIL)))
        self.assertIsNone(fits(("f", "X", "Y"), ("f", NIL)))
        self.assertIsNone(fits(("f",), ("f", NIL)))
        self.assertIsNone(fits(("f", "X"), ("f",)))

    def test_a_blank_that_comes_twice(self):
        twice = ("pair", "X", "X")
        self.assertEqual(fits(twice, ("pair", NIL, NIL)), {"X": NIL})
        self.assertEqual(fits(twice, ("pair", ("s", "Y"), ("s", "Y"))), {"X": ("s", "Y")})
        self.assertEqual(fits(twice, ("pair", "Y", "Y")), {"X": "Y"})
        self.assertIsNone(fits(twice, ("pair", NIL, ONE)))
        self.assertIsNone(fits(twice, ("pair", ("s", NIL), ("s", ONE))))
        self.assertIsNone(fits(twice, ("pair", "Y", "Z")))
        self.assertIsNone(fits(twice, ("pair", "X", "Y")))
        self.assertIsNone(fits(twice, ("pair", "Y", "X")))
        self.assertIsNone(fits(twice, ("pair", "X", NIL)))
        self.assertIsNone(fits(("tri", "X", "Y", ("s", "X")), ("tri", NIL, NIL, ("s", ONE))))
        self.assertEqual(fits(("tri", "X", "Y", ("s", "X")), ("tri", NIL, ONE, ("s", NIL))), {"X": NIL, "Y": ONE})

    def test_blanks_of_the_same_letters(self):
        self.assertEqual(fits("X", "X"), {"X": "X"})
        self.assertEqual(fits("X", ("s", "X")), {"X": ("s", "X")})
        self.assertEqual(fits(("pair", "X", "Y"), ("pair", "Y", "X")), {"X": "Y", "Y": "X"})
        self.assertEqual(fits(("pair", "X", "Y"), ("pair", ("s", "Y"), "X")), {"X": ("s", "Y"), "Y": "X"})
        self.assertEqual(fits(("pair", "X", "X"), ("pair", ("s", "X"), ("s", "X"))), {"X": ("s", "X")})
        self.assertIsNone(fits(("pair", "X", "X"), ("pair", ("s", "X"), "X")))
        self.assertIsNone(fits(("pair", "X", NIL), ("pair", NIL, "X")))

    def test_a_blank_of_the_term_where_the_pattern_has_a_sign(self):
        self.assertIsNone(fits(NIL, "X"))
        self.assertIsNone(fits(("s", "X"), "X"))
        self.assertIsNone(fits(("s", "X"), "Y"))
        self.assertIsNone(fits(("pair", "X", NIL), ("pair", NIL, "Y")))
        self.assertIsNone(fits(("pair", ("s", "X"), "Y"), ("pair", "Z", NIL)))

    def test_all_small_terms(self):
        terms = all_terms("XY", 4)
        for pattern, term in itertools.product(terms, terms):
            self.assertEqual(fits(pattern, term), matched([pattern], [term]), (pattern, term))

    def test_what_a_pattern_is_filled_to_it_fits(self):
        terms = drawn_terms(3, 120, "XYZ", 5)
        for one, other, pattern in zip(terms, terms[1:], terms[2:]):
            filling = {"X": one, "Y": other, "Z": "X"}
            wanted = {blank: filling[blank] for blank in read_blanks(pattern)}
            self.assertEqual(fits(pattern, replaced(pattern, filling)), wanted)

    def test_the_told_dict_is_the_askers_own(self):
        pattern, term = ("pair", "X", "Y"), ("pair", NIL, ONE)
        told = fits(pattern, term)
        told["X"] = ONE
        told["Q"] = NIL
        again = fits(pattern, term)
        self.assertEqual(again, {"X": NIL, "Y": ONE})
        fits(pattern, ("pair", ONE, ONE))
        self.assertEqual(again, {"X": NIL, "Y": ONE})
        fits(NIL, NIL)["X"] = NIL
        self.assertEqual(fits(NIL, NIL), {})


class MadeAlike(unittest.TestCase):
    def good(self, one, other):
        """A told filling that keeps to all that is promised of its form."""
        filling = made_alike(one, other)
        self.assertIs(type(filling), dict, (one, other))
        blanks = set(read_blanks(one) + read_blanks(other))
        self.assertLessEqual(set(filling), blanks)
        for held in filling.values():
            self.assertLessEqual(set(read_blanks(held)), blanks - set(filling))
        self.assertEqual(replaced(one, filling), replaced(other, filling))
        return filling

    def goes_by(self, filling, another, one, other):
        """Whether another filling is what comes of filling by the first and then by some third."""
        blanks = sorted(set(read_blanks(one) + read_blanks(other)))
        return matched(
            [replaced(blank, filling) for blank in blanks],
            [replaced(blank, another) for blank in blanks]) is not None

    def none(self, one, other):
        self.assertIsNone(made_alike(one, other), (one, other))
        self.assertIsNone(made_alike(other, one), (other, one))

    def one_answer(self, one, other, filling):
        """Where only one widest filling is there, it is told."""
        self.assertEqual(self.good(one, other), filling)
        self.assertEqual(self.good(other, one), filling)

    def test_unlike_signs(self):
        self.none(NIL, ONE)
        self.none(("s", "X"), ("t", "X"))
        self.none(("pair", "X", ("s", "Y")), ("pair", NIL, ("t", "Y")))
        self.none(("pair", "X", "X"), ("pair", NIL, ONE))
        self.none(("tri", "X", "Y", "X"), ("tri", "Y", ("s", NIL), NIL))

    def test_unlike_counts_of_parts(self):
        self.none(("f",), ("f", "X"))
        self.none(("f", "X"), ("f", "X", "Y"))
        self.none(("f", "X", "Y"), ("f", "X", "Y", "Z"))
        self.none(("s", ("f", "X", "X")), ("s", ("f", "X")))

    def test_a_blank_within_its_own_term(self):
        self.none("X", ("s", "X"))
        self.none("X", ("pair", NIL, ("s", ("s", "X"))))
        self.none(("pair", "X", "X"), ("pair", "Y", ("s", "Y")))

    def test_a_blank_within_its_own_term_by_way_of_others(self):
        self.none(("pair", "X", "Y"), ("pair", ("s", "Y"), ("s", "X")))
        self.none(("pair", "X", "Y"), ("pair", ("s", "Y"), "X"))
        self.none(("tri", "X", "Y", "Z"), ("tri", ("s", "Y"), ("s", "Z"), ("s", "X")))
        self.none(("tri", "X", "Y", "Z"), ("tri", "Y", "Z", ("s", "X")))
        self.none(("tri", "X", "Z", "X"), ("tri", ("s", "Y"), "Y", "Z"))

    def test_a_blank_and_itself(self):
        self.assertEqual(made_alike("X", "X"), {})
        self.assertEqual(made_alike(("s", "X"), ("s", "X")), {})

    def test_a_term_and_itself(self):
        for term in [NIL, *all_terms("XY", 4), *drawn_terms(4, 60, "XYZ", 4, most=16)]:
            self.assertEqual(made_alike(term, term), {})

    def test_a_blank_and_a_term(self):
        self.one_answer("X", NIL, {"X": NIL})
        self.one_answer("X", ("s", "Y"), {"X": ("s", "Y")})
        self.one_answer("X", ("pair", "Y", ("s", "Z")), {"X": ("pair", "Y", ("s", "Z"))})

    def test_two_blanks(self):
        self.assertIn(self.good("X", "Y"), ({"X": "Y"}, {"Y": "X"}))
        self.assertEqual(len(self.good(("tri", "X", "Y", "Z"), ("tri", "Y", "Z", "X"))), 2)
        self.assertIn(self.good(("pair", "X", "Y"), ("pair", "Y", "X")), ({"X": "Y"}, {"Y": "X"}))

    def test_a_blank_alike_to_several_terms_one_after_another(self):
        self.one_answer(
            ("tri", "X", "X", "X"), ("tri", ("pair", "Y", "Z"), ("pair", NIL, "Z"), ("pair", "Y", ONE)),
            {"X": ("pair", NIL, ONE), "Y": NIL, "Z": ONE})
        self.one_answer(
            ("tri", "X", "X", "X"), ("tri", "Y", "Z", ("s", NIL)),
            {"X": ("s", NIL), "Y": ("s", NIL), "Z": ("s", NIL)})
        self.none(("tri", "X", "X", "X"), ("tri", "Y", NIL, ONE))
        self.none(("tri", "X", "X", "X"), ("tri", ("s", "Y"), ("s", "Z"), ("s", ("pair", "Y", "Z"))))

    def test_fillings_that_lead_on_to_others(self):
        self.one_answer(
            ("tri", "X", "Y", "Z"), ("tri", ("pair", "Y", "Y"), ("pair", "Z", "Z"), NIL),
            {"X": ("pair", ("pair", NIL, NIL), ("pair", NIL, NIL)), "Y": ("pair", NIL, NIL), "Z": NIL})
        self.one_answer(
            ("tri", "A", "B", "C"), ("tri", ("s", "B"), ("s", "C"), ("s", "D")),
            {"A": ("s", ("s", ("s", "D"))), "B": ("s", ("s", "D")), "C": ("s", "D")})

    def test_sixteen_parts_that_grow_when_they_are_filled(self):
        def row(*parts):
            return ("tri", parts[0], parts[1], ("tri", parts[2], parts[3], parts[4]))

        one = row("A", "B", "C", ("d", "D", "D", "D"), ("d", "E", "E", "E"))
        other = row(("d", "B", "B", "B"), ("d", "C", "C", "C"), ("d", "D", "D", "D"), "C", "D")
        self.assertEqual((count_of(one), count_of(other)), (13, 16))
        filling = self.good(one, other)
        self.assertEqual(count_of(filling["A"]), 121)
        self.assertEqual(sorted(filling), ["A", "B", "C", "D"])

    def test_all_small_terms_against_all_small_fillings(self):
        terms = all_terms("XY", 3)
        held = all_terms("XYZ", 3)
        fillings = [{"X": one, "Y": other} for one, other in itertools.product(held, held)]
        images = [[replaced(term, filling) for filling in fillings] for term in terms]
        for (one, ones), (other, others) in itertools.product(zip(terms, images), repeat=2):
            alike = [filling for filling, a, b in zip(fillings, ones, others) if a == b]
            if made_alike(one, other) is None:
                self.assertEqual(alike, [], (one, other))
                continue
            filling = self.good(one, other)
            for another in alike:
                self.assertTrue(self.goes_by(filling, another, one, other), (one, other, another))

    def test_terms_that_some_filling_makes_alike(self):
        draw = random.Random(5)
        for term in drawn_terms(6, 300, "XYZ", 5, most=16):
            another = {}
            one = opened_term(draw, term, another, "ABC")
            other = opened_term(draw, term, another, "ABCDEF")
            self.assertEqual((replaced(one, another), replaced(other, another)), (term, term))
            for filling in (self.good(one, other), self.good(other, one)):
                self.assertTrue(self.goes_by(filling, another, one, other), (one, other))

    def test_none_is_told_just_where_there_is_none(self):
        terms = drawn_terms(7, 600, "XYZ", 4, most=16)
        told = [made_alike(one, other) is None for one, other in zip(terms, terms[1:])]
        for one, other, none in zip(terms, terms[1:], told):
            self.assertEqual(none, not self.can_be_alike(one, other), (one, other))
        self.assertGreater(told.count(True), 50)
        self.assertGreater(told.count(False), 50)

    def can_be_alike(self, one, other):
        """Whether two terms can be made alike: classes of parts that must be alike are put together."""
        parts = list({*placed(one).values(), *placed(other).values()})
        lead = {part: part for part in parts}

        def head(part):
            while lead[part] != part:
                part = lead[part]
            return part

        waiting = [(one, other)]
        while waiting:
            left, right = map(head, waiting.pop())
            if left == right:
                continue
            if isinstance(left, str):
                lead[left] = right
            elif isinstance(right, str):
                lead[right] = left
            elif left[0] != right[0] or len(left) != len(right):
                return False
            else:
                lead[left] = right
                waiting += zip(left[1:], right[1:])
        return not self.goes_round(lead, head)

    def goes_round(self, lead, head):
        """Whether some class of parts stands within itself."""
        within = {part: [] for part in lead}
        for part in lead:
            if not isinstance(part, str):
                within[head(part)] += [head(inner) for inner in part[1:]]
        for _ in lead:
            within = {part: [inner for inner in held if within[inner]] for part, held in within.items()}
        return any(within.values())

    def test_the_told_dict_is_the_askers_own(self):
        one, other = ("pair", "X", NIL), ("pair", ("s", "Y"), "Z")
        wanted = {"X": ("s", "Y"), "Z": NIL}
        told = made_alike(one, other)
        self.assertEqual(told, wanted)
        told["X"] = NIL
        del told["Z"]
        again = made_alike(one, other)
        self.assertEqual(again, wanted)
        made_alike(("s", "X"), ("s", ONE))
        self.assertEqual(again, wanted)
        made_alike(NIL, NIL)["X"] = NIL
        self.assertEqual(made_alike(NIL, NIL), {})

    def test_the_same_asked_twice(self):
        terms = drawn_terms(8, 100, "XYZ", 4, most=16)
        first = [made_alike(one, other) for one, other in zip(terms, terms[1:])]
        second = [made_alike(one, other) for one, other in zip(terms, terms[1:])]
        self.assertEqual(first, second)


if __name__ == "__main__":
    unittest.main()
