"""Rules made more, so that the chains that part at an overlap come together."""

from endmeet.ends import judgement
from endmeet.errors import NoRank
from endmeet.ranks import above, go_down
from endmeet.steps import last_term, must_rules
from endmeet.terms import parts_of, places_of

MOST_PARTS = 12
MOST_DEEP = 6


def is_great(rule):
    """Whether a rule has too great a side."""
    for side in rule:
        deep = 1 + max([len(place) for place in places_of(side)])
        if parts_of(side) > MOST_PARTS or deep > MOST_DEEP:
            return True
    return False


def rule_between(rank, one, other):
    """The rule that leads down from one of two terms to the other, or None where neither is above."""
    if above(rank, one, other):
        return (one, other)
    if above(rank, other, one):
        return (other, one)
    return None


def more(rules, rank, count):
    """Rules made more by a rank, up to a count: a tuple (word, rules, why)."""
    must_rules(rules, [])
    if not go_down(rank, rules):
        raise NoRank(list(rules))
    made = list(rules)
    why = []
    # Each rule that is put goes down by the rank, so no judgement on the way has to look for one.
    found = judgement(made)
    while found[0] == "two ends" and len(why) < count:
        overlap, one, other = found[1:]
        rule = rule_between(rank, last_term(overlap[4], one), last_term(overlap[5], other))
        if rule is None:
            return ("unlike", made, why)
        if is_great(rule):
            return ("great", made, why)
        made.append(rule)
        why.append(overlap)
        found = judgement(made)
    word = "enough" if found[0] == "two ends" else "one end"
    return (word, made, why)
