"""Points 1 to 3 and 15 to 17: overlaps, the judgement of rules, and terms that are led together."""

import random
import unittest

from endmeet.ends import judged, led_together, overlaps
from endmeet.errors import NoRank, NoRule, TooLong, TwoCounts
from endmeet.fillings import fits
from endmeet.steps import chain, end, steps
from tests.samples import (
    A, B, C, D, GROUP, NIL, ONE, PLUS, SWELL, WHOLE_GROUP, all_terms, asked, count_of, drawn_rules, drawn_terms,
    nested, placed, read_blanks, read_chain, read_end, read_judged, read_overlaps, read_steps, replaced,
)

ROUND = [(("f", "X"), ("f", "X"))]
# Of these the first and the second part at a, the third and the fourth at b.
PARTING = [(A, C), (A, D), (B, C), (B, D)]


def swollen(term):
    """What the first rule of SWELL leads to."""
    return nested("w", 4, term)


class Overlaps(unittest.TestCase):
    def test_none(self):
        self.assertEqual(overlaps([]), [])
        self.assertEqual(overlaps([(A, B)]), [])
        self.assertEqual(overlaps([(("f", "X"), "X")]), [])
        self.assertEqual(overlaps(PLUS), [])
        self.assertEqual(overlaps([(A, B), (B, C)]), [])

    def test_a_rule_with_itself_below_the_top_and_not_at_it(self):
        self.assertEqual(
            overlaps([(("f", ("f", "X")), ("g", "X"))]),
            [(0, 0, (0,), ("f", ("f", ("f", "A"))), ("g", ("f", "A")), ("f", ("g", "A")))])
        self.assertEqual(
            overlaps([(("m", ("m", "X", "Y"), "Z"), ("m", "X", ("m", "Y", "Z")))]),
            [(
                0, 0, (0,), ("m", ("m", ("m", "A", "B"), "C"), "D"), ("m", ("m", "A", "B"), ("m", "C", "D")),
                ("m", ("m", "A", ("m", "B", "C")), "D"))])

    def test_a_rule_with_itself_at_several_places(self):
        self.assertEqual(
            overlaps([(("pair", ("pair", "X", "Y"), ("pair", "Y", "Z")), ("tri", "X", "Y", "Z"))]),
            [
                (
                    0, 0, (0,),
                    ("pair", ("pair", ("pair", "A", "B"), ("pair", "B", "C")), ("pair", ("pair", "B", "C"), "D")),
                    ("tri", ("pair", "A", "B"), ("pair", "B", "C"), "D"),
                    ("pair", ("tri", "A", "B", "C"), ("pair", ("pair", "B", "C"), "D"))),
                (
                    0, 0, (1,),
                    ("pair", ("pair", "A", ("pair", "B", "C")), ("pair", ("pair", "B", "C"), ("pair", "C", "D"))),
                    ("tri", "A", ("pair", "B", "C"), ("pair", "C", "D")),
                    ("pair", ("pair", "A", ("pair", "B", "C")), ("tri", "B", "C", "D"))),
            ])

    def test_lefts_that_can_be_made_alike_both_ways(self):
        self.assertEqual(
            overlaps([(("f", "X", A), ("g", "X")), (("f", B, "X"), ("h", "X"))]),
            [
                (0, 1, (), ("f", B, A), ("g", B), ("h", A)),
                (1, 0, (), ("f", B, A), ("h", A), ("g", B)),
            ])
        self.assertEqual(overlaps([(A, B), (A, C)]), [(0, 1, (), A, B, C), (1, 0, (), A, C, B)])

    def test_two_equal_rules(self):
        rule = (("f", "X"), "X")
        self.assertEqual(
            overlaps([rule, rule]), [(0, 1, (), ("f", "A"), "A", "A"), (1, 0, (), ("f", "A"), "A", "A")])

    def test_no_overlap_where_a_blank_stands(self):
        self.assertEqual(overlaps([(("f", "X", "Y"), "X"), (NIL, ONE)]), [])
        self.assertEqual(
            overlaps([(("f", "X", NIL), "X"), (NIL, ONE)]), [(0, 1, (1,), ("f", "A", NIL), "A", ("f", "A", ONE))])

    def test_rules_that_use_the_same_letters(self):
        self.assertEqual(
            overlaps([(("f", "X", ("s", "X")), "X"), (("f", ("s", "X"), "Y"), "X")]),
            [
                (0, 1, (), ("f", ("s", "A"), ("s", ("s", "A"))), ("s", "A"), "A"),
                (1, 0, (), ("f", ("s", "A"), ("s", ("s", "A"))), "A", ("s", "A")),
            ])
        self.assertEqual(
            overlaps([(("f", "X", ("s", "X")), "X"), (("f", "Y", "Y"), "Y")]), [])
        self.assertEqual(
            overlaps([(("f", ("g", "X")), "X"), (("g", ("s", "X")), "X")]),
            [(0, 1, (0,), ("f", ("g", ("s", "A"))), ("s", "A"), ("f", "A"))])

    def test_the_same_rules_with_other_letters(self):
        names = {"X": "Z", "Y": "B", "Z": "A"}
        for rules in (GROUP, WHOLE_GROUP):
            others = [
                tuple(replaced(side, names) for side in rule) if at % 2 else rule for at, rule in enumerate(rules)]
            self.assertEqual(overlaps(others), overlaps(rules))

    def test_the_names_of_the_blanks(self):
        self.assertEqual(
            overlaps([(("f", "Z", ("g", "C"), "A"), ("tri", "A", "C", "Z")), (("g", ("pair", "B", "A")), "A")]),
            [(
                0, 1, (1,), ("f", "A", ("g", ("pair", "B", "C")), "D"), ("tri", "D", ("pair", "B", "C"), "A"),
                ("f", "A", "C", "D"))])
        for overlap in overlaps(WHOLE_GROUP):
            blanks = list(dict.fromkeys(read_blanks(overlap[3])))
            self.assertEqual(blanks, list("ABCDEFGH"[:len(blanks)]))
            for term in overlap[4:]:
                self.assertLessEqual(set(read_blanks(term)), set(blanks))

    def test_twelve_parts_with_as_many_blanks_as_can_be(self):
        wide = ("tri", ("tri", "A", "B", "C"), ("tri", "D", "E", "F"), ("pair", "G", "H"))
        deep = ("pair", ("tri", "A", "B", "C"), ("tri", "D", "E", ("tri", "F", "G", "H")))
        self.assertEqual((count_of(wide), count_of(deep)), (12, 12))
        rules = [(wide, ("tri", "H", "A", "D")), (deep, ("pair", "H", "A"))]
        told = overlaps(rules)
        self.assertEqual(told, read_overlaps(rules))
        self.assertEqual(
            [overlap[3:] for overlap in told if overlap[:3] == (0, 1, (2,))],
            [(
                ("tri", ("tri", "A", "B", "C"), ("tri", "D", "E", "F"),
                 ("pair", ("tri", "G", "H", "I"), ("tri", "J", "K", ("tri", "L", "M", "N")))),
                ("tri", ("tri", "J", "K", ("tri", "L", "M", "N")), "A", "D"),
                ("tri", ("tri", "A", "B", "C"), ("tri", "D", "E", "F"), ("pair", "N", "G")))])

    def test_the_order_is_that_of_k_then_of_p_then_of_j(self):
        rules = [(("f", ("g", "X"), ("g", A)), A), (("g", "X"), A), (("f", "X", "Y"), A), (("g", A), A)]
        self.assertEqual(
            [overlap[:3] for overlap in overlaps(rules)],
            [
                (0, 2, ()), (0, 1, (0,)), (0, 3, (0,)), (0, 1, (1,)), (0, 3, (1,)),
                (1, 3, ()), (2, 0, ()), (3, 1, ()),
            ])

    def test_lefts_that_are_made_alike_by_nothing(self):
        self.assertEqual(overlaps([(("f", "X", "X"), "X"), (("f", "Y", ("s", "Y")), "Y")]), [])
        self.assertEqual(overlaps([(("f", "X", "X"), "X"), (("f", A, B), A)]), [])

    def test_drawn_rules(self):
        many = 0
        for rules in drawn_rules(41, 300, most=4, parts=8):
            told = overlaps(rules)
            self.assertEqual(told, read_overlaps(rules), rules)
            many += len(told)
        self.assertGreater(many, 200)

    def test_the_peak_is_led_by_both_rules(self):
        for rules in [GROUP, WHOLE_GROUP, *drawn_rules(42, 100, most=4)]:
            for k, j, place, peak, upper, lower in overlaps(rules):
                self.assertIn(((), k, upper), steps(rules, peak))
                self.assertIn((place, j, lower), steps(rules, peak))

    def test_whatever_is_led_two_ways_so_goes_by_a_peak(self):
        terms = [term for term in all_terms("X", 6) if not isinstance(term, str)]
        lefts = [term for term in all_terms("XY", 4) if not isinstance(term, str)]
        draw = random.Random(43)
        many = 0
        for _ in range(30):
            rules = [(left, NIL) for left in draw.sample(lefts, 4)]
            peaks = {overlap[:3]: overlap[3] for overlap in overlaps(rules)}
            for term in terms:
                found = read_steps(rules, term)
                for k in [number for place, number, _ in found if place == ()]:
                    inside = [place for place, part in placed(rules[k][0]).items() if not isinstance(part, str)]
                    for place, j, _ in found:
                        if place in inside and (place, j) != ((), k):
                            self.assertIsNotNone(fits(peaks[k, j, place], term), (rules, term))
                            many += 1
        self.assertGreater(many, 50)

    def test_the_form_of_an_overlap(self):
        told = overlaps(WHOLE_GROUP)
        self.assertIs(type(told), list)
        for overlap in told:
            self.assertEqual([type(value) for value in overlap[:3]], [int, int, tuple])
            self.assertEqual((type(overlap), len(overlap)), (tuple, 6))

    def test_rules_that_go_down_by_no_rank(self):
        self.assertEqual(overlaps(ROUND), [])
        self.assertEqual(
            overlaps([*ROUND, (("f", A), A)]),
            [(0, 1, (), ("f", A), ("f", A), A), (1, 0, (), ("f", A), A, ("f", A))])

    def test_refusals(self):
        self.assertEqual(asked(overlaps, [(A, "X"), ("X", A)]), (NoRule, {"rule": (A, "X")}))
        self.assertEqual(asked(overlaps, [(("a", A), B), ("X", A)]), (NoRule, {"rule": ("X", A)}))
        self.assertEqual(asked(overlaps, [(("b", ("a", A)), B)]), (TwoCounts, {"sign": "a"}))


class Judged(unittest.TestCase):
    def test_no_rules(self):
        self.assertEqual(judged([]), ("one end", []))

    def test_no_overlap(self):
        for rules in (PLUS, [(A, B)], SWELL):
            self.assertEqual(judged(rules), ("one end", []))

    def test_one_end_written_out(self):
        self.assertEqual(
            judged([(("f", ("f", "X")), "X")]), ("one end", [([], [])]))
        self.assertEqual(
            judged([(A, B), (A, C), (B, C)]),
            ("one end", [([((), 2, C)], []), ([], [((), 2, C)])]))

    def test_one_end_of_many_overlaps(self):
        told = judged(WHOLE_GROUP)
        self.assertEqual(told[0], "one end")
        self.assertEqual(len(told[1]), len(overlaps(WHOLE_GROUP)))
        self.assertEqual(told, read_judged(WHOLE_GROUP))
        for overlap, pair in zip(overlaps(WHOLE_GROUP), told[1]):
            self.assertEqual(pair, (chain(WHOLE_GROUP, overlap[4]), chain(WHOLE_GROUP, overlap[5])))
            self.assertEqual(read_end(overlap[4], pair[0]), read_end(overlap[5], pair[1]))

    def test_two_ends_written_out(self):
        self.assertEqual(judged([(A, B), (A, C)]), ("two ends", (0, 1, (), A, B, C), [], []))
        self.assertEqual(
            judged([(("f", ("f", "X")), ("g", "X"))]),
            ("two ends", (0, 0, (0,), ("f", ("f", ("f", "A"))), ("g", ("f", "A")), ("f", ("g", "A"))), [], []))
        self.assertEqual(
            judged(GROUP),
            (
                "two ends",
                (2, 1, (0,), ("m", ("m", ("i", "A"), "A"), "B"), ("m", ("i", "A"), ("m", "A", "B")),
                 ("m", ("e",), "B")),
                [], [((), 0, "B")]))

    def test_two_ends_behind_steps_of_both(self):
        rules = [(A, ("f", B)), (A, ("g", B)), (("f", "X"), "X"), (("g", "X"), ("h", "X"))]
        self.assertEqual(
            judged(rules),
            ("two ends", (0, 1, (), A, ("f", B), ("g", B)), [((), 2, B)], [((), 3, ("h", B))]))

    def test_the_first_overlap_with_two_ends(self):
        told = judged(PARTING)
        self.assertEqual(told, ("two ends", (0, 1, (), A, C, D), [], []))
        self.assertEqual(judged([(A, C), (A, C), *PARTING[2:]]), ("two ends", (2, 3, (), B, C, D), [], []))

    def test_no_rank(self):
        for rules in (ROUND, [*PARTING, (D, A), (A, D)], [(("pair", "X", "Y"), ("pair", "Y", "X"))]):
            self.assertEqual(asked(judged, rules), (NoRank, {"rules": rules}))

    def test_no_rank_has_a_list_of_its_own(self):
        rules = list(ROUND)
        with self.assertRaises(NoRank) as caught:
            judged(rules)
        rules.clear()
        self.assertEqual(caught.exception.rules, ROUND)

    def test_too_long_of_the_upper_and_of_the_lower(self):
        upper = [*SWELL, (("u", A), A)]
        self.assertEqual(asked(judged, upper), (TooLong, {"term": swollen(A)}))
        lower = [(("u", A), A), *SWELL]
        self.assertEqual(overlaps(lower)[0][4], A)
        self.assertEqual(asked(judged, lower), (TooLong, {"term": swollen(A)}))

    def test_too_long_of_the_upper_ahead_of_the_lower(self):
        rules = [*SWELL, (("u", A), swollen(B))]
        self.assertEqual(asked(judged, rules), (TooLong, {"term": swollen(A)}))
        self.assertEqual(asked(judged, rules[::-1]), (TooLong, {"term": swollen(B)}))

    def test_too_long_in_the_order_of_overlaps(self):
        ends = [(("u", B), A), (("u", B), B)]
        rules = [*ends, *SWELL]
        self.assertEqual(judged(rules), ("two ends", (0, 1, (), ("u", B), A, B), [], []))
        self.assertEqual(asked(judged, [SWELL[0], *ends, SWELL[1]]), (TooLong, {"term": swollen(B)}))
        first = [*SWELL, (("u", B), B), (("u", A), A)]
        self.assertEqual(asked(judged, first), (TooLong, {"term": swollen(B)}))

    def test_too_many_steps(self):
        # A sign f is gone by seven steps: f leads to two h, each h to two k, and each k goes.
        rules = [(("f", "X"), ("h", ("h", "X"))), (("h", "X"), ("k", ("k", "X"))), (("k", "X"), "X"), (("g", A), A)]
        self.assertEqual(len(chain(rules, ("f", A))), 7)
        thirty = nested("k", 2, nested("f", 4, "X"))
        self.assertEqual(len(chain(rules, thirty)), 30)
        self.assertEqual(judged([*rules, (("g", "X"), thirty)])[0], "one end")
        longer = ("k", ("h", nested("f", 4, "X")))
        for made in ([*rules, (("g", "X"), longer)], [(("g", "X"), longer), *rules]):
            self.assertEqual(asked(judged, made), (TooLong, {"term": replaced(longer, {"X": A})}))

    def test_no_rank_ahead_of_too_long(self):
        rules = [*SWELL, (("u", A), A), (A, A)]
        self.assertEqual(asked(judged, rules), (NoRank, {"rules": rules}))

    def test_no_rule_and_two_counts_ahead_of_no_rank(self):
        self.assertEqual(asked(judged, [*ROUND, (A, "X"), ("X", A)]), (NoRule, {"rule": (A, "X")}))
        self.assertEqual(asked(judged, [*ROUND, (A, ("f",))]), (TwoCounts, {"sign": "f"}))
        self.assertEqual(asked(judged, [(A, ("f",)), *ROUND, ("X", A)]), (NoRule, {"rule": ("X", A)}))

    def test_drawn_rules(self):
        words = []
        for rules in drawn_rules(44, 400, most=4):
            told = asked(judged, rules)
            self.assertEqual(told, read_judged(rules), rules)
            words.append(told[0])
        for word in ("one end", "two ends", NoRank):
            self.assertGreater(words.count(word), 30)

    def test_one_end_by_whatever_chain(self):
        """Each term that is reached from a term comes to the term's straight end."""
        terms = drawn_terms(45, 40, "XY", 4, most=14)
        many = 0
        for rules in [rules for rules in drawn_rules(46, 150, most=4) if read_judged(rules)[0] == "one end"]:
            for term in terms:
                reached = [term]
                for at in reached:
                    reached += [led for _, _, led in read_steps(rules, at) if led not in reached]
                    if len(reached) > 60:
                        break
                ends = [led for led in reached if not read_steps(rules, led)]
                if len(reached) <= 60 and read_chain(rules, term) is not None:
                    self.assertEqual(ends, [end(rules, term)])
                    many += len(reached) > 2
        self.assertGreater(many, 30)

    def test_two_ends_of_one_term(self):
        many = 0
        for rules in drawn_rules(47, 200, most=4):
            if read_judged(rules)[0] == "two ends":
                _, overlap, one, other = judged(rules)
                ends = (read_end(overlap[4], one), read_end(overlap[5], other))
                self.assertNotEqual(*ends)
                self.assertEqual([steps(rules, term) for term in ends], [[], []])
                many += 1
        self.assertGreater(many, 20)


class LedTogether(unittest.TestCase):
    def test_true(self):
        two = nested("s", 2, ("zero",))
        self.assertIs(led_together(PLUS, ("add", two, "X"), ("s", ("s", "X"))), True)
        self.assertIs(led_together(PLUS, ("add", two, two), nested("s", 4, ("zero",))), True)
        self.assertIs(led_together(PLUS, "X", "X"), True)
        self.assertIs(led_together([], NIL, NIL), True)
        self.assertIs(
            led_together(WHOLE_GROUP, ("i", ("m", "X", ("i", "Y"))), ("m", ("m", "Y", ("e",)), ("i", "X"))), True)

    def test_false(self):
        self.assertIs(led_together([], NIL, ONE), False)
        self.assertIs(led_together([], "X", "Y"), False)
        self.assertIs(led_together(PLUS, ("add", "X", "Y"), ("add", "Y", "X")), False)
        self.assertIs(led_together(WHOLE_GROUP, ("m", "X", "Y"), ("m", "Y", "X")), False)

    def test_a_step_forth_or_back(self):
        many = 0
        for term in drawn_group_terms(48, 60):
            for _, _, led in steps(WHOLE_GROUP, term):
                self.assertIs(led_together(WHOLE_GROUP, term, led), True)
                self.assertIs(led_together(WHOLE_GROUP, led, term), True)
                many += 1
        self.assertGreater(many, 50)

    def test_the_straight_ends_alone_count(self):
        self.assertIs(led_together([(A, B), (A, C)], A, B), True)
        self.assertIs(led_together([(A, B), (A, C)], A, C), False)
        self.assertIs(led_together([(("f", ("f", "X")), ("g", "X"))], A, ("f", A)), False)
        self.assertIs(led_together([(A, A)], B, B), True)

    def test_refusals_in_order(self):
        one, other = ("f", A), ("f", B)
        self.assertEqual(asked(led_together, ROUND, one, other), (TooLong, {"term": one}))
        self.assertEqual(asked(led_together, ROUND, A, other), (TooLong, {"term": other}))
        self.assertEqual(asked(led_together, ROUND, other, A), (TooLong, {"term": other}))
        self.assertEqual(asked(led_together, ROUND, one, one), (TooLong, {"term": one}))
        self.assertEqual(asked(led_together, ROUND, one, ("f",)), (TwoCounts, {"sign": "f"}))
        self.assertEqual(asked(led_together, ROUND, ("f", ("a", B)), A), (TwoCounts, {"sign": "a"}))
        self.assertEqual(asked(led_together, [], ("g", A), ("s", ("g",))), (TwoCounts, {"sign": "g"}))
        self.assertEqual(asked(led_together, [*ROUND, ("X", A)], one, ("f",)), (NoRule, {"rule": ("X", A)}))


def drawn_group_terms(seed, many):
    """Terms over the signs of a group, the same each time."""
    draw = random.Random(seed)

    def term(depth):
        if depth == 1 or draw.random() < 0.2:
            return draw.choice(["X", "Y", ("e",)])
        if draw.random() < 0.3:
            return ("i", term(depth - 1))
        return ("m", term(depth - 1), term(depth - 1))

    return [found for found in (term(5) for _ in range(many)) if count_of(found) <= 25]


if __name__ == "__main__":
    unittest.main()
