"""Ranks of signs: which term is above which, and by which rank rules go down."""

from endmeet.steps import must_rules, sides_of
from endmeet.terms import inner_parts, is_blank, placed_parts, signs_of


def row_of(part, place, numbers):
    """A part written with the numbers of its own parts; numbers has them by their places."""
    if is_blank(part):
        return part
    return (part[0],) + tuple([numbers[place + (at,)] for at in range(len(part) - 1)])


def numbered(terms):
    """The rows of all parts of some terms, each once, and for each term the numbers of its parts.

    A part's number is above those of its own parts, so the last one of a term is that of the term.
    """
    rows = {}
    held = []
    for term in terms:
        numbers = {}
        for place, part in reversed(placed_parts(term)):
            numbers[place] = rows.setdefault(row_of(part, place, numbers), len(rows))
        held.append(sorted({numbers[place] for place in numbers}))
    return list(rows), held


def row_above(levels, rows, told, one, other):
    """Whether the part numbered one is above the other; told has the answers for their own parts."""
    if is_blank(rows[one]):
        return False
    # This also answers for a blank: it stands in a term where a part of it is that blank or is above it.
    if any([inner == other or told[(inner, other)] for inner in inner_parts(rows[one])]):
        return True
    if is_blank(rows[other]) or not all([told[(one, inner)] for inner in inner_parts(rows[other])]):
        return False
    if rows[one][0] != rows[other][0]:
        return levels[rows[one][0]] > levels[rows[other][0]]
    unlike = [pair for pair in zip(inner_parts(rows[one]), inner_parts(rows[other])) if pair[0] != pair[1]]
    return len(unlike) > 0 and told[unlike[0]]


def above(rank, one, other):
    """Whether one term is above another by a rank."""
    levels = {sign: level for level, sign in enumerate(rank)}
    rows, held = numbered([one, other])
    ones, others = held
    # Each pair of parts is answered once, inner ones first: asked from the outside they would come again and again.
    told = {}
    for first in ones:
        for second in others:
            told[(first, second)] = row_above(levels, rows, told, first, second)
    return told[(ones[-1], others[-1])]


def go_down(rank, rules):
    """Whether rules go down by a rank."""
    for left, right in rules:
        if not above(rank, left, right):
            return False
    return True


def rules_by_sign(rules, signs):
    """For each sign, in the letters' order, the rules of which it is the last one."""
    found = {sign: [] for sign in signs}
    for rule in rules:
        found[signs_of(list(rule))[-1]].append(rule)
    return found


def rank_of(rules):
    """A rank of just the rules' signs by which they go down, or None."""
    must_rules(rules, [])
    signs = signs_of(sides_of(rules))
    due = rules_by_sign(rules, signs)
    waiting = [[]]
    while waiting:
        rank = waiting.pop()
        if len(rank) == len(signs):
            return rank
        sign = signs[len(rank)]
        for at in range(len(rank) + 1):
            longer = rank[:at] + [sign] + rank[at:]
            # A rule is asked as soon as its last sign is placed: no sign placed later changes the answer.
            if go_down(longer, due[sign]):
                waiting.append(longer)
    return None
