"""Rules, the steps by which they lead from term to term, and the straight chain of such steps."""

from endmeet.errors import NoRule, TooLong, TwoCounts
from endmeet.fillings import filled, fits
from endmeet.terms import blanks_of, is_blank, parts_of, placed_parts, put_at

MOST_STEPS = 30
MOST_PARTS = 80


def is_rule(left, right):
    """Whether two terms make a rule."""
    if is_blank(left):
        return False
    known = blanks_of(left)
    return all([blank in known for blank in blanks_of(right)])


def sides_of(rules):
    """The terms of the rules in a row: of each rule the left and the right."""
    return [side for rule in rules for side in rule]


def twofold_signs(terms):
    """The signs that stand with two counts of parts in some terms, maybe more than once."""
    counts = {}
    found = []
    for term in terms:
        for place, part in placed_parts(term):
            if not is_blank(part) and counts.setdefault(part[0], len(part)) != len(part):
                found.append(part[0])
    return found


def must_rules(rules, terms):
    """Refuses what is no rule, and then signs with two counts of parts in the rules and the terms."""
    for rule in rules:
        left, right = rule
        if not is_rule(left, right):
            raise NoRule(rule)
    twofold = twofold_signs(sides_of(rules) + terms)
    if twofold:
        raise TwoCounts(min(twofold))


def steps_at(rules, term, place, part):
    """The steps of a term at one of its places, where the part stands, in the order of the rules."""
    found = []
    for number, (left, right) in enumerate(rules):
        filling = fits(left, part)
        if filling is not None:
            found.append((place, number, put_at(term, place, filled(right, filling))))
    return found


def steps(rules, term):
    """All steps of a term, in the order of places and then of the rules' numbers."""
    must_rules(rules, [term])
    found = []
    for place, part in placed_parts(term):
        found.extend(steps_at(rules, term, place, part))
    return found


def first_step(rules, term):
    """The first of a term's steps, or None where it has none."""
    for place, part in placed_parts(term):
        found = steps_at(rules, term, place, part)
        if found:
            return found[0]
    return None


def straight_chain(rules, term):
    """The straight chain from a term, by rules that were looked at."""
    found = []
    step = first_step(rules, term)
    while step is not None:
        reached = step[2]
        if len(found) == MOST_STEPS or parts_of(reached) > MOST_PARTS:
            raise TooLong(term)
        found.append(step)
        step = first_step(rules, reached)
    return found


def last_term(term, walked):
    """What a chain from a term ends at."""
    if walked:
        return walked[-1][2]
    return term


def chain(rules, term):
    """The straight chain from a term, a list of steps."""
    must_rules(rules, [term])
    return straight_chain(rules, term)


def end(rules, term):
    """The straight end of a term."""
    return last_term(term, chain(rules, term))
