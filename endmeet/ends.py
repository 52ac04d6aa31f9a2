"""Overlaps of rules, and whether the chains that part there come to one end."""

from endmeet.errors import NoRank
from endmeet.fillings import filled, made_alike
from endmeet.ranks import rank_of
from endmeet.steps import last_term, must_rules, straight_chain
from endmeet.terms import blanks_of, is_blank, placed_parts, put_at

LETTERS = "ABCDEFGHIJKLMNOPQRSTUVWXYZ"


def apart(rule):
    """A rule with its blanks called otherwise than any blank that is handed in."""
    left, right = rule
    # Doubled letters don't run out as single ones could, and are gone when the peak's blanks get their names.
    names = {blank: blank + blank for blank in blanks_of(left)}
    return (filled(left, names), filled(right, names))


def led_two_ways(upper_rule, lower_rule, place, part):
    """The tuple (peak, upper, lower) of two rules at a place of the first one's left, or None; part stands there."""
    left, right = upper_rule
    other_left, other_right = apart(lower_rule)
    filling = made_alike(part, other_left)
    if filling is None:
        return None
    peak = filled(left, filling)
    lower = put_at(peak, place, filled(other_right, filling))
    names = {blank: LETTERS[at] for at, blank in enumerate(blanks_of(peak))}
    return (filled(peak, names), filled(filled(right, filling), names), filled(lower, names))


def overlaps_at(rules, number, place, part):
    """The overlaps of one rule at one place of its left, where the part stands, in the order of the other rules."""
    found = []
    for other_number, other_rule in enumerate(rules):
        if other_number == number and place == ():
            continue
        ways = led_two_ways(rules[number], other_rule, place, part)
        if ways is not None:
            found.append((number, other_number, place) + ways)
    return found


def all_overlaps(rules):
    """The overlaps of rules that were looked at."""
    found = []
    for number, (left, right) in enumerate(rules):
        for place, part in placed_parts(left):
            if not is_blank(part):
                found.extend(overlaps_at(rules, number, place, part))
    return found


def overlaps(rules):
    """All overlaps of rules, in the order of the first rule, then of the place, then of the second rule."""
    must_rules(rules, [])
    return all_overlaps(rules)


def judgement(rules):
    """The judgement of rules that were looked at and go down by some rank."""
    chains = []
    for overlap in all_overlaps(rules):
        upper, lower = overlap[4:]
        one = straight_chain(rules, upper)
        other = straight_chain(rules, lower)
        if last_term(upper, one) != last_term(lower, other):
            return ("two ends", overlap, one, other)
        chains.append((one, other))
    return ("one end", chains)


def judged(rules):
    """The judgement of rules: whether every term comes to one end by them."""
    # To look for a rank is to look at the rules first: it refuses just as must_rules does.
    if rank_of(rules) is None:
        raise NoRank(list(rules))
    return judgement(rules)


def led_together(rules, one, other):
    """Whether the straight ends of two terms are the same."""
    must_rules(rules, [one, other])
    reached = [last_term(term, straight_chain(rules, term)) for term in (one, other)]
    return reached[0] == reached[1]
