"""Points 1 to 3, 13 and 14: which term is above which, and by which rank rules go down."""

import itertools
import random
import time
import unittest

from endmeet.errors import NoRule, TwoCounts
from endmeet.ranks import above, rank_of
from endmeet.steps import steps
from tests.samples import (
    A, B, C, GROUP, NIL, ONE, PLUS, SWELL, WHOLE_GROUP, all_terms, asked, count_of, depth_of, drawn_rules,
    drawn_term, drawn_terms, goes_down, nested, read_above, read_ranks, read_signs, replaced,
)

RANKS = [list(rank) for rank in itertools.permutations(["nil", "s", "pair"])]
SMALL = all_terms("XY", 4)


def comb(leaf, many):
    """A term in which so many pairs lie one within another, at the left."""
    term = leaf
    for _ in range(many):
        term = ("pair", term, leaf)
    return term


class Above(unittest.TestCase):
    def holds(self, rank, one, other):
        self.assertIs(above(rank, one, other), True, (rank, one, other))
        self.assertIs(above(rank, other, one), False, (rank, other, one))

    def neither(self, rank, one, other):
        self.assertIs(above(rank, one, other), False, (rank, one, other))
        self.assertIs(above(rank, other, one), False, (rank, other, one))

    def test_a_blank_is_above_nothing(self):
        for term in ("X", "Y", NIL, ("s", "X")):
            self.assertIs(above(["nil", "s"], "X", term), False)

    def test_a_blank_that_stands_in_the_term_or_does_not(self):
        self.holds(["s"], ("s", "X"), "X")
        self.holds(["tri", "s", "nil"], ("tri", NIL, ("s", ("s", "Y")), "X"), "Y")
        self.neither(["s"], ("s", "X"), "Y")
        self.neither(["nil"], NIL, "X")
        self.neither([], "X", "Y")

    def test_a_part_that_is_the_term_or_is_above_it(self):
        for rank in (["a", "s"], ["s", "a"]):
            self.holds(rank, ("s", A), A)
            self.holds(rank, nested("s", 5, A), A)
            self.holds(rank, nested("s", 5, "X"), nested("s", 4, "X"))
        for rank in (["f", "a", "b"], ["f", "b", "a"]):
            self.assertIs(above(rank, ("f", B), A), rank[1] == "a")
        self.holds(["pair", "s", "a"], ("pair", "X", ("s", "Y")), ("s", "Y"))

    def test_a_higher_sign(self):
        self.holds(["a", "b"], B, A)
        self.holds(["a", "f"], ("f", "X"), A)
        self.holds(["s", "f"], ("f", "X"), nested("s", 6, "X"))
        self.holds(["pair", "f"], ("f", "X"), ("pair", "X", ("pair", "X", "X")))
        self.neither(["s", "f"], ("f", "X"), ("s", "Y"))
        self.neither(["pair", "f"], ("f", "X"), ("pair", "X", "Y"))

    def test_a_lower_sign(self):
        self.neither(["f", "s"], ("f", "X"), ("s", "Y"))
        self.assertIs(above(["f", "s"], ("f", "X"), ("s", "X")), False)
        self.assertIs(above(["f", "s"], ("s", "X"), ("f", "X")), True)

    def test_a_lower_sign_above_by_its_part(self):
        self.holds(["f", "s", "g"], ("f", ("g", "X")), ("s", "X"))

    def test_the_same_sign_compared_from_the_first_part_on(self):
        rank = ["a", "b", "pair"]
        self.holds(rank, ("pair", B, A), ("pair", A, B))
        self.holds(rank, ("pair", A, B), ("pair", A, A))
        self.holds(rank, ("pair", ("pair", "X", "Y"), "Z"), ("pair", "X", ("pair", "Y", "Z")))
        self.neither(rank, ("pair", "X", "Y"), ("pair", "Y", "X"))
        self.holds(["a", "b", "tri"], ("tri", A, B, A), ("tri", A, A, B))
        self.neither(rank, ("pair", "X", B), ("pair", "Y", A))

    def test_the_same_sign_needs_the_whole_above_each_part(self):
        self.holds(["a", "b", "pair", "f"], ("pair", A, ("f", "X")), ("pair", B, "X"))
        self.neither(["a", "b", "pair"], ("pair", B, "X"), ("pair", A, "Y"))
        self.holds(["a", "b", "pair", "c"], ("pair", A, C), ("pair", B, A))

    def test_only_the_first_unlike_parts_count(self):
        rank = ["a", "b", "pair"]
        self.assertIs(above(rank, ("pair", A, B), ("pair", B, A)), False)
        self.assertIs(above(rank, ("pair", "X", B), ("pair", "Y", A)), False)

    def test_a_sign_that_only_the_rank_has(self):
        self.holds(["q", "a", "zz", "b", "r"], B, A)

    def test_no_term_is_above_itself(self):
        for term in SMALL:
            for rank in RANKS:
                self.assertIs(above(rank, term, term), False)

    def test_all_small_terms(self):
        for rank in RANKS:
            for one, other in itertools.product(SMALL, SMALL):
                self.assertIs(above(rank, one, other), read_above(tuple(rank), one, other), (rank, one, other))

    def test_it_goes_on_over_three_terms(self):
        for rank in RANKS[:2]:
            beneath = {
                at: {to for to, other in enumerate(SMALL) if above(rank, one, other)} for at, one in enumerate(SMALL)}
            for at, found in beneath.items():
                self.assertNotIn(at, found)
                for middle in found:
                    self.assertLessEqual(beneath[middle], found)

    def test_terms_without_blanks_are_above_one_another(self):
        for rank in RANKS:
            for one, other in itertools.combinations(all_terms("", 5), 2):
                self.assertNotEqual(above(rank, one, other), above(rank, other, one))

    def test_it_stays_when_both_are_filled_alike(self):
        fillings = [{"X": "Y"}, {"X": "Y", "Y": "X"}, {"X": NIL, "Y": ("s", "X")}, {"Y": ("pair", "X", "Z")}]
        for rank in RANKS:
            for one, other in itertools.product(all_terms("XY", 3), repeat=2):
                if above(rank, one, other):
                    for filling in fillings:
                        self.assertTrue(above(rank, replaced(one, filling), replaced(other, filling)))

    def test_it_stays_beneath_the_same_signs(self):
        for rank in RANKS:
            for one, other in itertools.product(all_terms("XY", 3), repeat=2):
                if above(rank, one, other):
                    for part in ("Y", NIL, ("s", NIL)):
                        self.assertTrue(above(rank, ("s", one), ("s", other)))
                        self.assertTrue(above(rank, ("pair", part, one), ("pair", part, other)))
                        self.assertTrue(above(rank, ("pair", one, part), ("pair", other, part)))

    def test_drawn_terms_of_twenty_parts(self):
        terms = [term for blanks in ("XY", "X", "") for term in drawn_terms(31, 600, blanks, 8, most=20)]
        terms = [term for term in terms if count_of(term) > 8]
        rank = ["nil", "one", "s", "pair", "tri"]
        draw = random.Random(32)
        found = []
        for one, other in zip(terms, terms[1:]):
            draw.shuffle(rank)
            found.append(above(rank, one, other))
            self.assertIs(found[-1], read_above(tuple(rank), one, other), (rank, one, other))
        self.assertGreater(found.count(True), 30)
        self.assertGreater(found.count(False), 30)

    def test_twenty_parts_eight_within_another_are_answered_at_once(self):
        one, other = comb("X", 7), comb(NIL, 7)
        sides = (one, ("pair", comb("X", 6), nested("s", 5, NIL)))
        others = (other, ("pair", comb(NIL, 6), nested("s", 5, "X")))
        for term in (sides[1], others[1]):
            self.assertEqual((count_of(term), depth_of(term)), (20, 8))
        rank = ["nil", "s", "pair", "tri"]
        began = time.process_time()
        for _ in range(100):
            for first, second in itertools.product(sides, others):
                self.assertIs(above(rank, first, second), read_above(tuple(rank), first, second))
                self.assertIs(above(rank, second, first), read_above(tuple(rank), second, first))
        self.assertLess(time.process_time() - began, 15)

    def test_what_lies_beyond_is_answered_at_once(self):
        one, other = comb("X", 15), comb(NIL, 15)
        rank = ["nil", "pair"]
        began = time.process_time()
        self.neither(rank, one, other)
        self.holds(rank, ("pair", one, NIL), one)
        self.holds(["s", "pair"], ("pair", one[1], "X"), nested("s", 60, "X"))
        self.assertLess(time.process_time() - began, 15)


class RankOf(unittest.TestCase):
    def good(self, rules):
        """A told rank that is one of just the rules' signs by which they go down."""
        rank = rank_of(rules)
        self.assertIs(type(rank), list, rules)
        self.assertEqual(sorted(rank), read_signs(rules))
        for left, right in rules:
            self.assertIs(above(rank, left, right), True)
        self.assertTrue(goes_down(rank, rules))
        return rank

    def test_no_rules(self):
        self.assertEqual(rank_of([]), [])

    def test_rules_that_go_down(self):
        for rules in (PLUS, GROUP, WHOLE_GROUP, SWELL, [(("f", "X"), "X")], [(("s", ("s", "X")), ("s", NIL))]):
            self.good(rules)
        self.assertEqual(self.good([(NIL, ONE)]), ["one", "nil"])
        self.assertEqual(self.good([(A, B), (B, C)]), ["c", "b", "a"])
        rank = self.good(PLUS)
        self.assertGreater(rank.index("add"), rank.index("s"))

    def test_each_order_of_five_signs(self):
        for order in itertools.permutations("abcde"):
            rules = [((high,), (low,)) for low, high in zip(order, order[1:])]
            self.assertEqual(rank_of(rules), list(order))

    def test_each_order_of_signs_in_one_rule(self):
        for low, middle, high in itertools.permutations("abc"):
            rules = [((high, "X"), (middle, (low, "X"))), ((middle, "X"), (low, "X"))]
            self.assertEqual(rank_of(rules), [low, middle, high])

    def test_rules_that_go_down_by_none(self):
        for rules in (
                [(NIL, NIL)], [(("f", "X"), ("f", "X"))], [(A, B), (B, A)], [(A, B), (B, C), (C, A)],
                [(("pair", "X", "Y"), ("pair", "Y", "X"))], [(("f", "X"), ("f", ("f", "X")))],
                [(A, ("f", A))], [(("f", ("g", "X")), ("g", ("f", "X"))), (("g", ("f", "X")), ("f", ("g", "X")))],
                [*PLUS, (("s", "X"), ("add", "X", "X"))]):
            self.assertEqual(read_ranks(rules), [])
            self.assertIsNone(rank_of(rules), rules)

    def test_the_last_rule_alone_goes_down_by_none(self):
        self.good(WHOLE_GROUP[:8])
        self.assertIsNone(rank_of([*WHOLE_GROUP[:8], (("m", "X", "Y"), ("m", "Y", "X"))]))

    def test_drawn_rules(self):
        found = {True: 0, False: 0}
        for rules in drawn_rules(33, 300, most=5, parts=8):
            can = read_ranks(rules) != []
            found[can] += 1
            if can:
                self.good(rules)
            else:
                self.assertIsNone(rank_of(rules), rules)
        self.assertGreater(min(found.values()), 50)

    def test_rules_that_go_down_by_a_drawn_rank(self):
        draw = random.Random(34)
        signs = ["nil", "one", "s", "pair", "tri"]
        for _ in range(60):
            draw.shuffle(signs)
            terms = [drawn_term(draw, "XY", 4) for _ in range(40)]
            pairs = [pair for pair in zip(terms, terms[1:]) if max(map(count_of, pair)) <= 12]
            self.good([pair for pair in pairs if read_above(tuple(signs), *pair)][:9])

    def test_what_a_step_leads_to_is_beneath(self):
        terms = drawn_terms(35, 30, "XY", 4, most=20)
        many = 0
        for rules in drawn_rules(36, 40):
            rank = rank_of(rules)
            if rank is None:
                continue
            whole = rank + [sign for sign in ("nil", "one", "s", "pair", "tri") if sign not in rank]
            for term in terms:
                for _, _, led in steps(rules, term):
                    self.assertIs(above(whole, term, led), True)
                    many += 1
        self.assertGreater(many, 50)

    def test_refusals(self):
        self.assertEqual(asked(rank_of, [(A, B), ("X", A)]), (NoRule, {"rule": ("X", A)}))
        self.assertEqual(asked(rank_of, [(A, "X"), (("a", "X"), A)]), (NoRule, {"rule": (A, "X")}))
        self.assertEqual(asked(rank_of, [(A, A), (("b", B), ("a", B))]), (TwoCounts, {"sign": "a"}))


if __name__ == "__main__":
    unittest.main()
