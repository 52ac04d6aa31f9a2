"""Terms to test with, and plain readings of the document to test against."""

import random

NIL = ("nil",)
ONE = ("one",)
# A place's number may have sixty figures.
HUGE = 10 ** 60 - 1


def great_term():
    """A term of 40 parts, 15 of them one within another."""
    deep = "X"
    for level in range(11):
        deep = ("pair", deep, "Y" if level % 2 else NIL)
    deep = ("s", ("s", deep))
    side = ("tri", ("pair", "A", "B"), ("pair", "C", "A"), ("pair", NIL, ONE))
    return ("tri", deep, side, ("tri", NIL, "Z", NIL))


def depth_of(term):
    """How many parts lie one within another, at most."""
    if isinstance(term, str):
        return 1
    return 1 + max([depth_of(part) for part in term[1:]], default=0)


def count_of(term):
    """The parts of a term, counted as the document says it."""
    if isinstance(term, str):
        return 1
    return 1 + sum(count_of(part) for part in term[1:])


def placed(term):
    """A dict from each place of a term to the part there."""
    found = {(): term}
    if isinstance(term, str):
        return found
    for at, part in enumerate(term[1:]):
        for place, inner in placed(part).items():
            found[(at,) + place] = inner
    return found


def read_blanks(term):
    """Every blank of a term from left to right, as often as it comes."""
    if isinstance(term, str):
        return [term]
    return [blank for part in term[1:] for blank in read_blanks(part)]


def replaced(term, filling):
    """A term filled in one go."""
    if isinstance(term, str):
        return filling[term] if term in filling else term
    return (term[0], *[replaced(part, filling) for part in term[1:]])


def matched(patterns, terms):
    """The filling that makes each pattern the term beside it, or None."""
    filling = {}

    def match(pattern, term):
        if isinstance(pattern, str):
            return filling.setdefault(pattern, term) == term
        if isinstance(term, str) or pattern[0] != term[0] or len(pattern) != len(term):
            return False
        return all(match(*pair) for pair in zip(pattern[1:], term[1:]))

    return filling if all(match(*pair) for pair in zip(patterns, terms)) else None


def all_terms(blanks, most):
    """Every term of at most so many parts, over the blanks and the signs nil, s and pair."""
    by_size = {1: [*blanks, NIL]}
    for size in range(2, most + 1):
        made = [("s", part) for part in by_size[size - 1]]
        for left in range(1, size - 1):
            made += [("pair", one, other) for one in by_size[left] for other in by_size[size - 1 - left]]
        by_size[size] = made
    return [term for size in sorted(by_size) for term in by_size[size]]


def drawn_term(draw, blanks, depth):
    """A term drawn at will, at most so deep."""
    if depth == 1 or draw.random() < 0.25:
        return draw.choice([*blanks, *blanks, NIL, ONE])
    sign, many = draw.choice([("s", 1), ("pair", 2), ("pair", 2), ("tri", 3)])
    return (sign, *[drawn_term(draw, blanks, depth - 1) for _ in range(many)])


def drawn_terms(seed, many, blanks, depth, most=40):
    """A list of terms of at most so many parts, the same list each time."""
    draw = random.Random(seed)
    terms = []
    while len(terms) < many:
        term = drawn_term(draw, blanks, depth)
        if count_of(term) <= most:
            terms.append(term)
    return terms


def opened_term(draw, term, filling, letters):
    """A term that is filled to the one handed in: blanks of the letters stand for some of its parts.

    What each blank stands for is put into the filling; a blank that is there already may come again.
    """
    for blank, held in filling.items():
        if held == term and blank in letters and draw.random() < 0.7:
            return blank
    if draw.random() < 0.25 and len(filling) < len(letters):
        blank = letters[len(filling)]
        filling[blank] = term
        return blank
    if isinstance(term, str):
        return term
    return (term[0], *[opened_term(draw, part, filling, letters) for part in term[1:]])
