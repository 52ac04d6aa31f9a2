"""Points 1 to 3 over the whole program: what is handed in stays, and what is told is the asker's own."""

import copy
import unittest

from endmeet import ends, errors, fillings, more, ranks, steps, terms
from endmeet.errors import NoPlace, NoRank, NoRule, TooLong, TwoCounts
from tests.samples import A, B, C, GROUP, GROUP_RANK, NIL, PLUS, SWELL, WHOLE_GROUP, asked, great_term

TWO = ("add", ("s", ("s", ("zero",))), "X")
ROUND = [(("f", "X"), ("f", "X"))]
# What is told of these.
TOLD = (
    (terms.parts_of, great_term()),
    (terms.places_of, great_term()),
    (terms.blanks_of, great_term()),
    (terms.signs_of, [great_term(), NIL, "X"]),
    (terms.part_at, great_term(), (0, 0)),
    (terms.put_at, great_term(), (0, 0), ("s", "X")),
    (fillings.filled, great_term(), {"X": NIL, "Q": ("s", "X")}),
    (fillings.fits, ("pair", "X", "Y"), ("pair", NIL, "X")),
    (fillings.made_alike, ("pair", "X", NIL), ("pair", ("s", "Y"), "Y")),
    (steps.must_rules, WHOLE_GROUP, [NIL, "X"]),
    (steps.steps, PLUS, TWO),
    (steps.chain, PLUS, TWO),
    (steps.chain, PLUS, NIL),
    (steps.end, PLUS, TWO),
    (ranks.above, ["zero", "s", "add"], TWO, ("s", "X")),
    (ranks.rank_of, WHOLE_GROUP),
    (ranks.rank_of, []),
    (ranks.rank_of, ROUND),
    (ends.overlaps, WHOLE_GROUP),
    (ends.judged, WHOLE_GROUP),
    (ends.judged, GROUP),
    (ends.judged, []),
    (ends.judged, [(A, B), (A, B)]),
    (ends.led_together, PLUS, TWO, ("s", ("s", "X"))),
    (more.more, GROUP, GROUP_RANK, 4),
    (more.more, GROUP, GROUP_RANK, 0),
    (more.more, WHOLE_GROUP, GROUP_RANK, 4),
    (more.more, [(A, B), (A, C)], ["c", "b", "a"], 2),
    (more.more, [], [], 2),
)
# What is refused, each with its class.
REFUSED = (
    (NoPlace, terms.part_at, great_term(), (0, 9)),
    (NoPlace, terms.put_at, great_term(), (-1,), NIL),
    (NoRule, steps.must_rules, [*PLUS, ("X", NIL)], [NIL]),
    (TwoCounts, steps.must_rules, PLUS, [("add",)]),
    (NoRule, steps.steps, [*PLUS, ("X", NIL)], TWO),
    (TwoCounts, steps.steps, PLUS, ("add",)),
    (TooLong, steps.chain, ROUND, ("f", NIL)),
    (TooLong, steps.end, ROUND, ("f", NIL)),
    (NoRule, ranks.rank_of, [*PLUS, ("X", NIL)]),
    (TwoCounts, ranks.rank_of, [*PLUS, (("s", "X"), ("add",))]),
    (NoRule, ends.overlaps, [*PLUS, ("X", NIL)]),
    (NoRank, ends.judged, [*PLUS, *ROUND]),
    (TooLong, ends.judged, [*SWELL, (("u", A), A)]),
    (TooLong, ends.led_together, ROUND, NIL, ("f", NIL)),
    (NoRank, more.more, GROUP, ["i", "m", "e"], 3),
    (TooLong, more.more, [(("u", A), A), (("u", A), B), *SWELL], ["a", "b", "tri", "w", "u"], 3),
)


def emptied(value):
    """Takes away all that can be taken away from a value and from what it holds."""
    if isinstance(value, (list, tuple)):
        for held in value:
            emptied(held)
    if isinstance(value, (list, dict)):
        value.clear()


class Told(unittest.TestCase):
    def test_what_is_handed_in_stays(self):
        for call, *given in TOLD:
            before = copy.deepcopy(given)
            call(*given)
            self.assertEqual(given, before, call)

    def test_whoever_asks_the_same_again_is_told_the_same(self):
        first = [copy.deepcopy(call(*given)) for call, *given in TOLD]
        for (call, *given), told in reversed(list(zip(TOLD, first))):
            for _ in range(2):
                self.assertEqual(call(*copy.deepcopy(given)), told, call)

    def test_what_is_emptied_is_told_whole_again(self):
        for call, *given in TOLD:
            wanted = copy.deepcopy(call(*given))
            before = copy.deepcopy(given)
            emptied(call(*given))
            self.assertEqual(given, before, call)
            self.assertEqual(call(*given), wanted, call)

    def test_nothing_done_or_asked_later_changes_what_was_told(self):
        for call, *given in TOLD:
            given = copy.deepcopy(given)
            told = call(*given)
            wanted = copy.deepcopy(told)
            emptied(call(*given))
            for value in given:
                emptied(value)
            self.assertEqual(told, wanted, call)

    def test_no_list_is_told_twice_in_one_answer(self):
        for call, *given in TOLD:
            found = []
            waiting = [call(*given)]
            while waiting:
                value = waiting.pop()
                if isinstance(value, (list, tuple)):
                    waiting += value
                if isinstance(value, list):
                    self.assertNotIn(id(value), found, call)
                    found.append(id(value))

    def test_no_truth_is_told_as_a_number_and_no_number_as_a_truth(self):
        for call, *given in TOLD:
            told = call(*given)
            if call in (ranks.above, ends.led_together):
                self.assertIs(type(told), bool)
                continue
            waiting = [told]
            while waiting:
                value = waiting.pop()
                self.assertIsNot(type(value), bool, call)
                if isinstance(value, (list, tuple)):
                    waiting += value


class Refused(unittest.TestCase):
    def test_each_refusal_is_of_its_own_class(self):
        for error, call, *given in REFUSED:
            with self.assertRaises(errors.EndError) as caught:
                call(*given)
            self.assertIs(type(caught.exception), error, call)
            self.assertIsInstance(caught.exception, ValueError)
            self.assertIsInstance(str(caught.exception), str)

    def test_a_refused_call_changes_nothing(self):
        wanted = [copy.deepcopy(call(*given)) for call, *given in TOLD]
        for _, call, *given in REFUSED:
            before = copy.deepcopy(given)
            first = asked(call, *given)
            self.assertEqual(given, before, call)
            self.assertEqual(asked(call, *given), first, call)
        self.assertEqual([call(*given) for call, *given in TOLD], wanted)

    def test_a_field_is_not_changed_later(self):
        for error, call, *given in REFUSED:
            given = copy.deepcopy(given)
            with self.assertRaises(error) as caught:
                call(*given)
            before = copy.deepcopy(vars(caught.exception))
            asked(call, *copy.deepcopy(given))
            for value in given:
                emptied(value)
            self.assertEqual(vars(caught.exception), before, call)


if __name__ == "__main__":
    unittest.main()
