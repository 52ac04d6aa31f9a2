"""Points 1 to 3 and 10 to 12: rules, steps, straight chains and ends."""

import unittest

from endmeet.errors import NoRule, TooLong, TwoCounts
from endmeet.steps import chain, end, must_rules, steps
from tests.samples import (
    A, B, C, GROUP, NIL, ONE, PLUS, WHOLE_GROUP, all_terms, asked, count_of, drawn_rules, drawn_terms, great_term,
    nested, read_chain, read_end, read_steps,
)

LOSE = [(("f", "X"), "X")]
ROUND = [(("f", "X"), ("f", "X"))]
ALL = (must_rules, steps, chain, end)
# A leaf a is gone by two steps, a leaf b by one.
DOWN = [(A, B), (B, C)]


def ternary(leaves):
    """A term that has an odd count of leaves, in order, and signs of three parts above them."""
    while len(leaves) > 1:
        leaves = leaves[3:] + [("tri", *leaves[:3])]
    return leaves[0]


def asks(rules, term):
    """Each function of the file beside the refusal or the answer that it tells of a term."""
    return [asked(must_rules, rules, [term])] + [asked(call, rules, term) for call in (steps, chain, end)]


class MustRules(unittest.TestCase):
    def refused(self, error, field, rules, *terms):
        for _ in range(2):
            self.assertEqual(asked(must_rules, rules, list(terms)), (error, field))

    def test_good_rules(self):
        for rules in ([], LOSE, ROUND, PLUS, GROUP, WHOLE_GROUP, [(NIL, ONE), (ONE, NIL)], [(("f", "X", "Y"), NIL)]):
            self.assertIsNone(must_rules(rules, []))
        self.assertIsNone(must_rules([], ["X", NIL, great_term()]))
        self.assertIsNone(must_rules(PLUS, ["X", ("add", ("s", "Q"), ("zero",)), NIL, ("other", "X")]))

    def test_a_left_that_is_a_blank(self):
        for rule in (("X", "X"), ("X", NIL), ("X", ("s", "X")), ("X", "Y")):
            self.refused(NoRule, {"rule": rule}, [rule])
            self.refused(NoRule, {"rule": rule}, [*LOSE, rule, *LOSE])

    def test_a_right_with_a_blank_of_its_own(self):
        for rule in ((("s", "X"), "Y"), (NIL, "X"), (("s", "X"), ("tri", "X", NIL, ("s", "Y")))):
            self.refused(NoRule, {"rule": rule}, [rule])
            self.refused(NoRule, {"rule": rule}, [*LOSE, rule])

    def test_the_first_one_is_told(self):
        bare, own = ("X", NIL), (("s", "X"), "Y")
        self.refused(NoRule, {"rule": bare}, [bare, own])
        self.refused(NoRule, {"rule": own}, [own, bare])
        self.refused(NoRule, {"rule": own}, [*LOSE, own, *LOSE, bare, (NIL, "Z")])
        self.refused(NoRule, {"rule": ("Y", "Y")}, [("Y", "Y"), ("X", "X")])

    def test_a_sign_with_two_counts_in_one_rule(self):
        self.refused(TwoCounts, {"sign": "f"}, [(("f", ("f",)), NIL)])
        self.refused(TwoCounts, {"sign": "f"}, [(("f", "X"), ("f", "X", "X"))])
        self.refused(TwoCounts, {"sign": "f"}, [(("f", "X"), ("s", ("f",)))])
        self.refused(TwoCounts, {"sign": "f"}, [(("tri", ("f", "X", NIL), "Y", ("f", "X", "Y", "X")), NIL)])

    def test_a_sign_with_two_counts_between_rules(self):
        self.refused(TwoCounts, {"sign": "f"}, [(("f", "X"), "X"), (("f", "X", "Y"), "X")])
        self.refused(TwoCounts, {"sign": "f"}, [(NIL, ("f",)), (ONE, NIL), (("g", "X"), ("f", "X"))])

    def test_a_sign_with_two_counts_in_terms(self):
        self.refused(TwoCounts, {"sign": "f"}, LOSE, ("f",))
        self.refused(TwoCounts, {"sign": "f"}, LOSE, "X", NIL, ("s", ("f", "X", "Y")))
        self.refused(TwoCounts, {"sign": "f"}, [], ("f",), ("s", ("f", "X")))
        self.refused(TwoCounts, {"sign": "f"}, [], ("f", ("f",)))

    def test_of_several_signs_the_first_in_the_letters_order(self):
        twice = [(("b", ("zz", NIL)), ("b",)), (("zz",), ("ab",)), (("ab", "X"), ("c",))]
        self.refused(TwoCounts, {"sign": "ab"}, twice)
        self.refused(TwoCounts, {"sign": "b"}, twice[:2])
        self.refused(TwoCounts, {"sign": "zz"}, [(("zz", ("zz",)), NIL)], NIL)
        self.refused(TwoCounts, {"sign": "c"}, [(("zz", ("zz",)), NIL)], ("c",), ("c", "X"))
        self.refused(TwoCounts, {"sign": "zz"}, [(("zz", ("zz",)), NIL)], ("c",), ("zzz",), ("zzz", "X"))

    def test_no_rule_ahead_of_two_counts(self):
        own = (("s", "X"), "Y")
        self.refused(NoRule, {"rule": own}, [(("f", ("f",)), NIL), own])
        self.refused(NoRule, {"rule": ("X", NIL)}, [("X", NIL)], ("f",), ("f", "X"))
        self.refused(NoRule, {"rule": (("f", "X"), ("f", "X", "Y"))}, [(("f", "X"), ("f", "X", "Y"))])

    def test_all_functions_of_the_file_refuse_alike(self):
        for rules, term, told in (
                ([("X", NIL)], NIL, (NoRule, {"rule": ("X", NIL)})),
                ([*ROUND, (NIL, "X")], ("f", NIL, NIL), (NoRule, {"rule": (NIL, "X")})),
                (ROUND, ("f", NIL, NIL), (TwoCounts, {"sign": "f"})),
                (ROUND, ("s", ("f",)), (TwoCounts, {"sign": "f"})),
                ([*ROUND, (("a", "X"), A)], ("f", NIL), (TwoCounts, {"sign": "a"})),
                ([], ("f", ("f",)), (TwoCounts, {"sign": "f"}))):
            self.assertEqual(asks(rules, term), [told] * len(ALL), (rules, term))


class Steps(unittest.TestCase):
    def test_no_rule(self):
        for term in ("X", NIL, great_term()):
            self.assertEqual(steps([], term), [])

    def test_no_rule_fits(self):
        self.assertEqual(steps(LOSE, ("s", "X")), [])
        self.assertEqual(steps(PLUS, ("add", "X", ("zero",))), [])

    def test_several_places(self):
        self.assertEqual(
            steps(LOSE, ("pair", ("f", ("f", "X")), ("f", NIL))),
            [
                ((0,), 0, ("pair", ("f", "X"), ("f", NIL))),
                ((0, 0), 0, ("pair", ("f", "X"), ("f", NIL))),
                ((1,), 0, ("pair", ("f", ("f", "X")), NIL)),
            ])

    def test_places_ahead_of_rules(self):
        rules = [(NIL, ONE), (("f", "X"), "X"), (("f", NIL), ONE), (NIL, ("f", NIL))]
        self.assertEqual(
            steps(rules, ("f", NIL)),
            [
                ((), 1, NIL),
                ((), 2, ONE),
                ((0,), 0, ("f", ONE)),
                ((0,), 3, ("f", ("f", NIL))),
            ])

    def test_equal_rules_are_told_each(self):
        self.assertEqual(steps(LOSE * 9, ("f", NIL)), [((), number, NIL) for number in range(9)])

    def test_a_left_with_a_blank_twice(self):
        rules = [(("pair", "X", "X"), ("s", "X"))]
        self.assertEqual(steps(rules, ("pair", ("s", "Y"), ("s", "Y"))), [((), 0, ("s", ("s", "Y")))])
        self.assertEqual(steps(rules, ("pair", "Y", "Y")), [((), 0, ("s", "Y"))])
        self.assertEqual(steps(rules, ("pair", "Y", "Z")), [])
        self.assertEqual(steps(rules, ("pair", "X", NIL)), [])

    def test_blanks_that_have_the_letters_of_the_rules(self):
        rules = [(("pair", "X", "Y"), ("pair", "Y", ("s", "X")))]
        self.assertEqual(
            steps(rules, ("pair", "Y", "X")), [((), 0, ("pair", "X", ("s", "Y")))])
        self.assertEqual(
            steps(rules, ("pair", ("s", "Y"), ("s", "X"))), [((), 0, ("pair", ("s", "X"), ("s", ("s", "Y"))))])
        self.assertEqual(steps(LOSE, ("f", ("s", "X"))), [((), 0, ("s", "X"))])

    def test_no_step_fills_a_blank_of_the_term(self):
        self.assertEqual(steps([(NIL, ONE)], "X"), [])
        self.assertEqual(steps([(("f", NIL), NIL)], ("f", "X")), [])
        self.assertEqual(steps([(("pair", ("f", "X"), "Y"), "Y")], ("pair", "Z", NIL)), [])

    def test_a_step_to_an_equal_term(self):
        self.assertEqual(steps(ROUND, ("f", "Y")), [((), 0, ("f", "Y"))])
        swap = [(("pair", "X", "Y"), ("pair", "Y", "X"))]
        self.assertEqual(steps(swap, ("s", ("pair", NIL, NIL))), [((0,), 0, ("s", ("pair", NIL, NIL)))])

    def test_a_right_that_has_fewer_blanks_or_one_more_often(self):
        rules = [(("tri", "X", "Y", "Z"), ("tri", "Y", "Y", NIL))]
        self.assertEqual(steps(rules, ("tri", NIL, ("s", "A"), ONE)), [((), 0, ("tri", ("s", "A"), ("s", "A"), NIL))])

    def test_forty_parts_and_what_is_greater(self):
        tenfold = ("tri", ("tri", "X", "X", "X"), ("tri", "X", "X", "X"), ("tri", "X", "X", NIL))
        rules = [(("tri", "X", "Y", "Z"), ("tri", "Z", "X", "X")), (("s", "X"), tenfold), (ONE, NIL)]
        told = steps(rules, great_term())
        self.assertEqual(told, read_steps(rules, great_term()))
        self.assertGreater(max(count_of(term) for _, _, term in told), 80)

    def test_drawn_rules_and_terms(self):
        terms = drawn_terms(21, 60, "XYZ", 5) + all_terms("XY", 3)
        many = 0
        for at, rules in enumerate(drawn_rules(22, 60, most=5)):
            for term in terms[at % 5::5]:
                told = steps(rules, term)
                self.assertEqual(told, read_steps(rules, term), (rules, term))
                many += len(told)
        self.assertGreater(many, 200)

    def test_the_form_of_a_step(self):
        told = steps(PLUS, ("add", ("s", "X"), "Y"))
        self.assertIs(type(told), list)
        for step in told:
            place, number, _ = step
            self.assertEqual((type(step), type(place), type(number)), (tuple, tuple, int))


class ChainAndEnd(unittest.TestCase):
    def good(self, rules, term, many):
        told = chain(rules, term)
        self.assertIs(type(told), list)
        self.assertEqual(len(told), many)
        self.assertEqual(told, read_chain(rules, term))
        self.assertEqual(end(rules, term), read_end(term, told))
        self.assertEqual(steps(rules, end(rules, term)), [])

    def too_long(self, rules, term):
        for _ in range(2):
            for call in (chain, end):
                self.assertEqual(asked(call, rules, term), (TooLong, {"term": term}))

    def test_no_step(self):
        for term in ("X", NIL, ("pair", "X", NIL), great_term()):
            for rules in ([], LOSE):
                self.good(rules, term, 0)
                self.assertEqual(end(rules, term), term)

    def test_several_steps_written_out(self):
        two = nested("s", 2, ("zero",))
        self.assertEqual(
            chain(PLUS, ("add", two, "X")),
            [
                ((), 1, ("s", ("add", ("s", ("zero",)), "X"))),
                ((0,), 1, ("s", ("s", ("add", ("zero",), "X")))),
                ((0, 0), 0, ("s", ("s", "X"))),
            ])
        self.assertEqual(end(PLUS, ("add", two, "X")), ("s", ("s", "X")))
        self.assertEqual(end(PLUS, ("add", two, two)), nested("s", 4, ("zero",)))

    def test_the_first_of_the_steps_is_taken(self):
        rules = [(NIL, ONE), (("f", "X"), "X"), (("f", NIL), ("two",))]
        self.assertEqual(chain(rules, ("f", NIL)), [((), 1, NIL), ((), 0, ONE)])
        self.assertEqual(end(rules[::-1], ("f", NIL)), ("two",))

    def test_thirty_steps_and_thirty_one(self):
        thirty = ternary([A] * 15)
        self.good(DOWN, thirty, 30)
        self.assertEqual(end(DOWN, thirty), ternary([C] * 15))
        self.good(DOWN, ternary([A] * 14 + [B]), 29)
        more = ternary([A] * 14 + [B, B, B])
        self.assertLessEqual(count_of(more), 40)
        self.too_long(DOWN, more)
        self.good(DOWN, ternary([A] * 14 + [B, B, C]), 30)
        self.too_long(DOWN, ternary([A] * 17))

    def test_thirty_steps_one_within_another(self):
        self.good(LOSE, nested("f", 30, "X"), 30)
        self.too_long(LOSE, nested("f", 31, "X"))

    def test_an_endless_chain(self):
        self.too_long(ROUND, ("f", NIL))
        self.too_long([(A, B), (B, A)], ("s", A))
        self.too_long([(("pair", "X", "Y"), ("pair", "Y", "X"))], ("pair", "Y", "X"))

    def test_eighty_parts_and_eighty_one(self):
        inner = ternary([NIL] * 25)
        inner = nested("s", 2, inner)
        self.assertEqual(count_of(inner), 39)
        term = ("f", inner)
        self.assertEqual(count_of(term), 40)
        eighty = [(("f", "X"), ("pair", "X", ("s", "X")))]
        self.good(eighty, term, 1)
        self.assertEqual(count_of(end(eighty, term)), 80)
        more = [(("f", "X"), ("pair", ("s", "X"), ("s", "X")))]
        self.assertEqual(count_of(steps(more, term)[0][2]), 81)
        self.too_long(more, term)

    def test_eighty_one_parts_on_the_way(self):
        inner = nested("s", 2, ternary([NIL] * 25))
        rules = [(("f", "X"), ("g", ("pair", "X", "X"))), (("g", "X"), NIL)]
        self.good(rules, ("f", inner), 2)
        self.too_long([(("f", "X"), ("g", ("pair", ("s", "X"), "X"))), (("g", "X"), NIL)], ("f", inner))
        later = [(NIL, ONE), (("pair", ONE, "X"), ("g", ("pair", ("s", "X"), "X"))), (("g", "X"), ONE)]
        self.too_long(later, ("pair", NIL, ternary([ONE] * 27)))
        self.good(later, ("pair", NIL, ternary([ONE] * 25)), 3)

    def test_a_first_term_that_is_greater(self):
        great = ternary([NIL] * 55)
        self.assertEqual(count_of(great), 82)
        for rules in ([], LOSE):
            self.good(rules, great, 0)
        self.good([(("tri", "X", "Y", "Z"), NIL)], great, 1)
        self.good(LOSE, ("f", ternary([NIL] * 53)), 1)
        self.too_long(LOSE, ("f", great))
        self.too_long([(NIL, ONE)], ("pair", NIL, ternary([ONE] * 55)))

    def test_drawn_rules_and_terms(self):
        terms = drawn_terms(23, 40, "XYZ", 5) + all_terms("XY", 3)
        told = {True: 0, False: 0}
        for at, rules in enumerate(drawn_rules(24, 60, most=5)):
            for term in terms[at % 4::4]:
                wanted = read_chain(rules, term)
                told[wanted is None] += 1
                if wanted is None:
                    self.too_long(rules, term)
                else:
                    self.good(rules, term, len(wanted))
        self.assertGreater(min(told.values()), 20)

    def test_no_rule_and_two_counts_ahead_of_too_long(self):
        for call in (chain, end):
            self.assertEqual(asked(call, [*ROUND, ("X", NIL)], ("f", NIL)), (NoRule, {"rule": ("X", NIL)}))
            self.assertEqual(asked(call, ROUND, ("f", ("f",))), (TwoCounts, {"sign": "f"}))


if __name__ == "__main__":
    unittest.main()
