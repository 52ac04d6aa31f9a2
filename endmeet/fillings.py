"""Fillings: dicts from blanks to terms, and how terms are made to fit or to be alike by them."""

from endmeet.terms import blanks_of, is_blank


def filled(term, filling):
    """A term with its blanks filled in one go; blanks that the filling lacks stay."""
    if is_blank(term):
        return filling.get(term, term)
    return (term[0],) + tuple([filled(part, filling) for part in term[1:]])


def paired_parts(one, other):
    """The parts of two terms beside each other, or None where a blank, a sign or a count keeps them apart."""
    if is_blank(one) or is_blank(other):
        return None
    if one[0] != other[0] or len(one) != len(other):
        return None
    return list(zip(one[1:], other[1:]))


def fits(pattern, term):
    """The filling of just the pattern's blanks that makes it the term, or None."""
    filling = {}
    waiting = [(pattern, term)]
    while waiting:
        asked, given = waiting.pop(0)
        if is_blank(asked):
            if filling.setdefault(asked, given) != given:
                return None
            continue
        pairs = paired_parts(asked, given)
        if pairs is None:
            return None
        waiting = pairs + waiting
    return filling


def with_blank(filling, blank, term):
    """A filling that fills one blank more, also where that blank stands in its terms."""
    made = {known: filled(held, {blank: term}) for known, held in filling.items()}
    made[blank] = term
    return made


def made_alike(one, other):
    """A widest filling that makes two terms alike, or None."""
    filling = {}
    waiting = [(one, other)]
    while waiting:
        first, second = waiting.pop(0)
        # No filled blank is left in the two, so a blank that is met here is free to be filled.
        left, right = filled(first, filling), filled(second, filling)
        if left == right:
            continue
        if is_blank(right):
            left, right = right, left
        if is_blank(left):
            if left in blanks_of(right):
                return None
            filling = with_blank(filling, left, right)
            continue
        pairs = paired_parts(left, right)
        if pairs is None:
            return None
        waiting = pairs + waiting
    return filling
