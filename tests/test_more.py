"""Points 1 to 3, 18 and 19: rules made more by a rank."""

import unittest

from endmeet.ends import judged
from endmeet.errors import NoRank, NoRule, TooLong, TwoCounts
from endmeet.more import more
from endmeet.ranks import above
from endmeet.steps import end, must_rules, steps
from tests.samples import (
    A, B, C, D, GROUP, GROUP_RANK, PLUS, SWELL, WHOLE_GROUP, asked, count_of, depth_of, drawn_rules, nested,
    read_judged, read_more, read_ranks,
)

PARTING = [(A, B), (A, C)]
# By this rank what is led from one of the lefts below goes down.
RANK = ["a", "b", "c", "s", "pair", "tri", "w", "u", "f"]


def ended(term, other):
    """Rules by which a sign without parts comes to either of two terms."""
    return [(("f",), term), (("f",), other)]


class More(unittest.TestCase):
    def good(self, rules, rank, count):
        """What is told, where it is just what the document says."""
        before = (list(rules), list(rank))
        told = more(rules, rank, count)
        self.assertEqual((rules, rank), before)
        self.assertEqual(told, read_more(rules, rank, count))
        word, made, why = told
        self.assertEqual([type(value) for value in told], [str, list, list])
        self.assertEqual(made[:len(rules)], rules)
        self.assertEqual(len(made), len(rules) + len(why))
        self.assertLessEqual(len(why), count)
        self.gone_by_those_ahead(len(rules), made, why)
        for left, right in made:
            self.assertTrue(above(rank, left, right))
        must_rules(made, [])
        return told

    def gone_by_those_ahead(self, first, made, why):
        """Each rule that was put joins the ends of the two ways down from its peak, by the rules ahead of it."""
        for at, (k, j, place, peak, upper, lower) in enumerate(why):
            ahead = made[:first + at]
            self.assertIn(((), k, upper), steps(ahead, peak))
            self.assertIn((place, j, lower), steps(ahead, peak))
            ends = (end(ahead, upper), end(ahead, lower))
            self.assertIn(made[first + at], (ends, ends[::-1]))
            self.assertEqual(judged(ahead)[:2], ("two ends", why[at]))

    def test_one_end_with_nothing_put(self):
        for rules, rank in (([], []), ([], ["a"]), (PLUS, ["zero", "s", "add"]), ([(A, B)], ["b", "a"])):
            for count in range(5):
                self.assertEqual(self.good(rules, rank, count), ("one end", rules, []))
        self.assertEqual(more(WHOLE_GROUP, GROUP_RANK, 4), ("one end", WHOLE_GROUP, []))

    def test_one_end_with_the_upper_above(self):
        self.assertEqual(
            self.good(PARTING, ["c", "b", "a"], 4), ("one end", [*PARTING, (B, C)], [(0, 1, (), A, B, C)]))

    def test_one_end_with_the_lower_above(self):
        self.assertEqual(
            self.good(PARTING, ["b", "c", "a"], 4), ("one end", [*PARTING, (C, B)], [(0, 1, (), A, B, C)]))

    def test_one_end_with_the_count_just_put(self):
        self.assertEqual(self.good(PARTING, ["c", "b", "a"], 1)[0], "one end")

    def test_one_end_with_several_put(self):
        told = self.good([*PARTING, (A, D)], ["d", "c", "b", "a"], 4)
        self.assertEqual(
            told,
            ("one end", [*PARTING, (A, D), (B, C), (C, D)], [(0, 1, (), A, B, C), (0, 2, (), A, B, D)]))

    def test_the_straight_ends_are_what_is_put(self):
        rules = [(A, ("s", B)), (A, ("pair", B, B)), (("s", "X"), "X")]
        told = self.good(rules, ["b", "s", "pair", "a"], 2)
        self.assertEqual(told[1][3:], [(("pair", B, B), B)])
        self.assertEqual(told[2], [(0, 1, (), A, ("s", B), ("pair", B, B))])

    def test_a_rule_with_blanks_that_is_put(self):
        rules = [(("s", ("s", "X")), ("t", "X"))]
        peak = nested("s", 3, "A")
        overlap = (0, 0, (0,), peak, ("t", ("s", "A")), ("s", ("t", "A")))
        self.assertEqual(
            self.good(rules, ["t", "s"], 4),
            ("one end", [*rules, (("s", ("t", "A")), ("t", ("s", "A")))], [overlap]))

    def test_enough(self):
        word, made, why = self.good(GROUP, GROUP_RANK, 4)
        self.assertEqual((word, len(made), len(why)), ("enough", 7, 4))
        self.assertEqual(made[3], (("m", ("i", "A"), ("m", "A", "B")), "B"))
        for count in range(5):
            told = self.good(GROUP, GROUP_RANK, count)
            self.assertEqual(told, ("enough", made[:3 + count], why[:count]))

    def test_a_count_of_nought(self):
        self.assertEqual(self.good(PARTING, ["c", "b", "a"], 0), ("enough", PARTING, []))
        self.assertEqual(self.good([(A, B)], ["c", "b", "a"], 0), ("one end", [(A, B)], []))

    def test_unlike(self):
        rules = [(("pair", "X", "Y"), "X"), (("pair", "X", "Y"), "Y")]
        self.assertEqual(self.good(rules, ["pair"], 4), ("unlike", rules, []))
        turned = [(("f", "X", "Y"), ("pair", "X", "Y")), (("f", "X", "Y"), ("pair", "Y", "X"))]
        self.assertEqual(self.good(turned, ["pair", "f"], 1), ("unlike", turned, []))

    def test_unlike_behind_a_rule_that_was_put(self):
        rules = [*PARTING, (("pair", "X", "Y"), "X"), (("pair", "X", "Y"), "Y")]
        self.assertEqual(
            self.good(rules, ["c", "b", "a", "pair"], 4), ("unlike", [*rules, (B, C)], [(0, 1, (), A, B, C)]))

    def test_enough_ahead_of_unlike_and_of_great(self):
        rules = [(("pair", "X", "Y"), "X"), (("pair", "X", "Y"), "Y")]
        self.assertEqual(self.good(rules, ["pair"], 0), ("enough", rules, []))
        self.assertEqual(self.good([*PARTING, *rules], ["c", "b", "a", "pair"], 1)[0], "enough")
        great = ended(("w", ("tri", A, A, A)), A) + SWELL[1:]
        self.assertEqual(self.good(great, RANK, 0), ("enough", great, []))
        self.assertEqual(self.good(great, RANK, 1), ("great", great, []))

    def test_unlike_ahead_of_great(self):
        three = ("tri", "X", "X", "X")
        other = ("tri", "Y", "Y", "Y")
        rules = [(("pair", "X", "Y"), ("w", three)), (("pair", "X", "Y"), ("w", other)), SWELL[1]]
        self.assertEqual(self.good(rules, ["tri", "w", "pair"], 4), ("unlike", rules, []))

    def test_twelve_parts_and_thirteen(self):
        twelve = ("pair", ("tri", A, A, ("s", A)), ("tri", A, A, ("pair", A, A)))
        self.assertEqual(count_of(twelve), 12)
        self.assertEqual(self.good(ended(twelve, A), RANK, 1)[:2], ("one end", [*ended(twelve, A), (twelve, A)]))
        self.assertEqual(self.good(ended(A, twelve), RANK, 1)[:2], ("one end", [*ended(A, twelve), (twelve, A)]))
        for rules in (ended(("w", ("tri", A, A, A)), A), ended(A, ("w", ("tri", A, A, A)))):
            rules = [*rules, SWELL[1]]
            self.assertEqual(count_of(end(rules, ("w", ("tri", A, A, A)))), 13)
            self.assertEqual(self.good(rules, RANK, 4), ("great", rules, []))

    def test_six_within_another_and_seven(self):
        double = (("w", "X"), ("s", ("s", "X")))
        six, seven = nested("w", 2, ("s", A)), nested("w", 3, A)
        self.assertEqual((depth_of(nested("s", 5, A)), depth_of(nested("s", 6, A))), (6, 7))
        for rules in (ended(six, A), ended(A, six)):
            told = self.good([*rules, double], RANK, 4)
            self.assertEqual(told[0], "one end")
            self.assertEqual(told[1][3], (nested("s", 5, A), A))
        for rules in (ended(seven, A), ended(A, seven)):
            self.assertEqual(self.good([*rules, double], RANK, 4), ("great", [*rules, double], []))

    def test_a_blank_counts_among_those_within_another(self):
        double = (("w", "X"), ("s", ("s", "X")))
        for term, word in ((nested("w", 2, ("s", "X")), "one end"), (nested("w", 3, "X"), "great")):
            rules = [(("f", "X"), term), (("f", "X"), "X"), double]
            self.assertEqual(self.good(rules, RANK, 1)[0], word)

    def test_a_right_that_is_too_great(self):
        rank = ["a", "s", "tri", "u", "w", "f"]
        for term, rule in ((("w", ("tri", A, A, A)), SWELL[1]), (nested("w", 3, A), (("w", "X"), ("s", ("s", "X"))))):
            rules = [*ended(("u",), term), rule]
            self.assertTrue(above(rank, ("u",), end(rules, term)))
            self.assertEqual(self.good(rules, rank, 4), ("great", rules, []))

    def test_great_behind_a_rule_that_was_put(self):
        rules = [(B, A), (B, ("s", A)), *ended(A, nested("w", 3, A)), (("w", "X"), ("tri", "X", "X", "X"))]
        word, made, why = self.good(rules, ["a", "s", "b", "tri", "w", "f"], 4)
        self.assertEqual((word, made[5:], len(why)), ("great", [(("s", A), A)], 1))

    def test_a_rank_that_has_more_signs(self):
        self.assertEqual(
            self.good(PARTING, ["zz", "c", "tri", "b", "pair", "a", "y"], 4)[:2], ("one end", [*PARTING, (B, C)]))

    def test_no_rank(self):
        for rules, rank in (
                (PARTING, ["a", "b", "c"]), (PARTING, ["b", "a", "c"]), (GROUP, ["i", "m", "e"]),
                (PLUS, ["add", "s", "zero"]), ([*PLUS, (("s", "X"), ("s", "X"))], ["zero", "s", "add"])):
            for count in (0, 4):
                self.assertEqual(asked(more, rules, rank, count), (NoRank, {"rules": rules}))

    def test_no_rank_has_a_list_of_its_own(self):
        rules = list(PARTING)
        with self.assertRaises(NoRank) as caught:
            more(rules, ["a", "b", "c"], 1)
        rules.clear()
        self.assertEqual(caught.exception.rules, PARTING)

    def test_too_long(self):
        rules = [*SWELL, (("u", A), A)]
        for count in (0, 4):
            self.assertEqual(asked(more, rules, RANK, count), (TooLong, {"term": nested("w", 4, A)}))
            self.assertEqual(asked(more, rules[::-1], RANK, count), (TooLong, {"term": nested("w", 4, A)}))

    def test_too_long_behind_a_rule_that_was_put(self):
        rules = [(("u", A), A), (("u", A), B), *SWELL]
        self.assertEqual(more(rules, RANK, 0), ("enough", rules, []))
        for count in (1, 4):
            self.assertEqual(asked(more, rules, RANK, count), (TooLong, {"term": nested("w", 4, A)}))
            self.assertEqual(asked(more, rules, RANK, count), read_more(rules, RANK, count))
        self.assertEqual(rules, [(("u", A), A), (("u", A), B), *SWELL])

    def test_refusals_in_order(self):
        bad = [*SWELL, (("u", A), A)]
        rank = [*RANK, "q"]
        self.assertEqual(asked(more, [*bad, (A, B)], rank, 1), (NoRank, {"rules": [*bad, (A, B)]}))
        self.assertEqual(asked(more, [*bad, (A, B), (B, ("u",))], rank, 1), (TwoCounts, {"sign": "u"}))
        self.assertEqual(
            asked(more, [*bad, (A, B), (B, ("u",)), (A, "X"), ("X", A)], rank, 1), (NoRule, {"rule": (A, "X")}))

    def test_drawn_rules(self):
        words = []
        for at, rules in enumerate(drawn_rules(51, 500, most=4)):
            ranks = read_ranks(rules)
            if ranks:
                words.append(self.good(rules, ranks[at % len(ranks)], at % 5)[0])
        for word, least in (("one end", 50), ("enough", 5), ("unlike", 5), ("great", 1)):
            self.assertGreater(words.count(word), least, word)

    def test_one_end_is_what_is_judged(self):
        for rules in drawn_rules(52, 200, most=4):
            ranks = read_ranks(rules)
            if ranks:
                word, made, _ = more(rules, ranks[0], 4)
                self.assertEqual(word == "one end", read_judged(made)[0] == "one end")
                self.assertIn(judged(made)[0], ("one end", "two ends"))


if __name__ == "__main__":
    unittest.main()
