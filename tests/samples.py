"""Terms to test with, and plain readings of the document to test against."""

import functools
import itertools
import random

from endmeet.errors import EndError, NoRank, TooLong

NIL = ("nil",)
ONE = ("one",)
# A place's number may have sixty figures.
HUGE = 10 ** 60 - 1


def great_term():
    """A term of 40 parts, 15 of them one within another."""
    deep = "X"
    for level in range(11):
        deep = ("pair", deep, "Y" if level % 2 else NIL)
    deep = ("s", ("s", deep))
    side = ("tri", ("pair", "A", "B"), ("pair", "C", "A"), ("pair", NIL, ONE))
    return ("tri", deep, side, ("tri", NIL, "Z", NIL))


def depth_of(term):
    """How many parts lie one within another, at most."""
    if isinstance(term, str):
        return 1
    return 1 + max([depth_of(part) for part in term[1:]], default=0)


def count_of(term):
    """The parts of a term, counted as the document says it."""
    if isinstance(term, str):
        return 1
    return 1 + sum(count_of(part) for part in term[1:])


def placed(term):
    """A dict from each place of a term to the part there."""
    found = {(): term}
    if isinstance(term, str):
        return found
    for at, part in enumerate(term[1:]):
        for place, inner in placed(part).items():
            found[(at,) + place] = inner
    return found


def read_blanks(term):
    """Every blank of a term from left to right, as often as it comes."""
    if isinstance(term, str):
        return [term]
    return [blank for part in term[1:] for blank in read_blanks(part)]


def replaced(term, filling):
    """A term filled in one go."""
    if isinstance(term, str):
        return filling[term] if term in filling else term
    return (term[0], *[replaced(part, filling) for part in term[1:]])


def matched(patterns, terms):
    """The filling that makes each pattern the term beside it, or None."""
    filling = {}

    def match(pattern, term):
        if isinstance(pattern, str):
            return filling.setdefault(pattern, term) == term
        if isinstance(term, str) or pattern[0] != term[0] or len(pattern) != len(term):
            return False
        return all(match(*pair) for pair in zip(pattern[1:], term[1:]))

    return filling if all(match(*pair) for pair in zip(patterns, terms)) else None


def all_terms(blanks, most):
    """Every term of at most so many parts, over the blanks and the signs nil, s and pair."""
    by_size = {1: [*blanks, NIL]}
    for size in range(2, most + 1):
        made = [("s", part) for part in by_size[size - 1]]
        for left in range(1, size - 1):
            made += [("pair", one, other) for one in by_size[left] for other in by_size[size - 1 - left]]
        by_size[size] = made
    return [term for size in sorted(by_size) for term in by_size[size]]


def drawn_term(draw, blanks, depth):
    """A term drawn at will, at most so deep."""
    if depth == 1 or draw.random() < 0.25:
        return draw.choice([*blanks, *blanks, NIL, ONE])
    sign, many = draw.choice([("s", 1), ("pair", 2), ("pair", 2), ("tri", 3)])
    return (sign, *[drawn_term(draw, blanks, depth - 1) for _ in range(many)])


def drawn_terms(seed, many, blanks, depth, most=40):
    """A list of terms of at most so many parts, the same list each time."""
    draw = random.Random(seed)
    terms = []
    while len(terms) < many:
        term = drawn_term(draw, blanks, depth)
        if count_of(term) <= most:
            terms.append(term)
    return terms


def opened_term(draw, term, filling, letters):
    """A term that is filled to the one handed in: blanks of the letters stand for some of its parts.

    What each blank stands for is put into the filling; a blank that is there already may come again.
    """
    for blank, held in filling.items():
        if held == term and blank in letters and draw.random() < 0.7:
            return blank
    if draw.random() < 0.25 and len(filling) < len(letters):
        blank = letters[len(filling)]
        filling[blank] = term
        return blank
    if isinstance(term, str):
        return term
    return (term[0], *[opened_term(draw, part, filling, letters) for part in term[1:]])


A, B, C, D = ("a",), ("b",), ("c",), ("d",)
PLUS = [
    (("add", ("zero",), "X"), "X"),
    (("add", ("s", "X"), "Y"), ("s", ("add", "X", "Y"))),
]
GROUP = [
    (("m", ("e",), "X"), "X"),
    (("m", ("i", "X"), "X"), ("e",)),
    (("m", ("m", "X", "Y"), "Z"), ("m", "X", ("m", "Y", "Z"))),
]
GROUP_RANK = ["e", "m", "i"]
WHOLE_GROUP = [
    *GROUP,
    (("m", "X", ("e",)), "X"),
    (("m", "X", ("i", "X")), ("e",)),
    (("i", ("e",)), ("e",)),
    (("i", ("i", "X")), "X"),
    (("m", ("i", "X"), ("m", "X", "Y")), "Y"),
    (("m", "X", ("m", ("i", "X"), "Y")), "Y"),
    (("i", ("m", "X", "Y")), ("m", ("i", "Y"), ("i", "X"))),
]


def nested(sign, many, term):
    """A term beneath the same sign so many times."""
    for _ in range(many):
        term = (sign, term)
    return term


# What begins with u comes to more than 80 parts by these.
SWELL = [(("u", "X"), nested("w", 4, "X")), (("w", "X"), ("tri", "X", "X", "X"))]


def asked(call, *given):
    """What is told, or the class and the fields of the refusal."""
    try:
        return call(*given)
    except EndError as error:
        return (type(error), vars(error))


def read_put(term, place, new):
    """A term with a new one at a place."""
    if place == ():
        return new
    at = place[0] + 1
    return (*term[:at], read_put(term[at], place[1:], new), *term[at + 1:])


def read_steps(rules, term):
    """The steps of a term, as the document says it."""
    found = []
    for place, part in sorted(placed(term).items(), key=lambda item: item[0]):
        for number, (left, right) in enumerate(rules):
            filling = matched([left], [part])
            if filling is not None:
                found.append((place, number, read_put(term, place, replaced(right, filling))))
    return found


def read_chain(rules, term):
    """The straight chain from a term, or None where it is too long."""
    found = []
    at = term
    while read_steps(rules, at):
        step = read_steps(rules, at)[0]
        found.append(step)
        at = step[2]
        if len(found) > 30 or count_of(at) > 80:
            return None
    return found


def read_end(term, steps):
    """What a chain from a term ends at."""
    return steps[-1][2] if steps else term


@functools.lru_cache(maxsize=None)
def read_above(rank, one, other):
    """Whether one term is above another by a rank, a tuple, word for word as the document says it."""
    if isinstance(one, str):
        return False
    if isinstance(other, str):
        return other in read_blanks(one)
    if any(part == other or read_above(rank, part, other) for part in one[1:]):
        return True
    each = all(read_above(rank, one, part) for part in other[1:])
    if one[0] != other[0]:
        return rank.index(one[0]) > rank.index(other[0]) and each
    unlike = [pair for pair in zip(one[1:], other[1:]) if pair[0] != pair[1]]
    return each and unlike != [] and read_above(rank, *unlike[0])


def read_signs(rules):
    """The signs of rules in the letters' order."""
    parts = [part for rule in rules for side in rule for part in placed(side).values()]
    return sorted({part[0] for part in parts if not isinstance(part, str)})


def goes_down(rank, rules):
    """Whether rules go down by a rank."""
    return all(read_above(tuple(rank), left, right) for left, right in rules)


def read_ranks(rules):
    """All ranks of just the rules' signs by which they go down."""
    return [list(rank) for rank in itertools.permutations(read_signs(rules)) if goes_down(rank, rules)]


def resolved(term, known):
    """A term filled as often as the dict has something for its blanks."""
    if isinstance(term, str):
        return resolved(known[term], known) if term in known else term
    return (term[0], *[resolved(part, known) for part in term[1:]])


def unified(one, other, known):
    """Puts into the dict what makes two terms alike, and tells whether anything does."""
    one, other = resolved(one, known), resolved(other, known)
    if one == other:
        return True
    if isinstance(other, str):
        one, other = other, one
    if isinstance(one, str):
        known[one] = other
        return one not in read_blanks(other)
    if one[0] != other[0] or len(one) != len(other):
        return False
    return all(unified(*pair, known) for pair in zip(one[1:], other[1:]))


def named_anew(terms):
    """Terms with the blanks of the first one called A, B, C and so on."""
    blanks = list(dict.fromkeys(read_blanks(terms[0])))
    names = dict(zip(blanks, "ABCDEFGHIJKLMNOPQRSTUVWXYZ"))
    return tuple(replaced(term, names) for term in terms)


def read_overlaps(rules):
    """The overlaps of rules, as the document says it."""
    found = []
    for k, (left, right) in enumerate(rules):
        for place, part in sorted(placed(left).items(), key=lambda item: item[0]):
            for j, rule in enumerate(rules):
                others = {blank: f"other {blank}" for blank in read_blanks(rule[0])}
                other_left, other_right = [replaced(side, others) for side in rule]
                known = {}
                if isinstance(part, str) or (k == j and place == ()) or not unified(part, other_left, known):
                    continue
                ways = (left, right, read_put(left, place, other_right))
                found.append((k, j, place) + named_anew([resolved(term, known) for term in ways]))
    return found


def read_judged(rules):
    """The judgement of rules, or the class and the fields of the refusal."""
    if not read_ranks(rules):
        return (NoRank, {"rules": rules})
    chains = []
    for overlap in read_overlaps(rules):
        for term in overlap[4:]:
            if read_chain(rules, term) is None:
                return (TooLong, {"term": term})
        one, other = [read_chain(rules, term) for term in overlap[4:]]
        if read_end(overlap[4], one) != read_end(overlap[5], other):
            return ("two ends", overlap, one, other)
        chains.append((one, other))
    return ("one end", chains)


def read_more(rules, rank, count):
    """Rules made more, or the class and the fields of the refusal."""
    if not goes_down(rank, rules):
        return (NoRank, {"rules": rules})
    why = []
    while True:
        told = read_judged(rules)
        if told[0] != "two ends":
            return ("one end", rules, why) if told[0] == "one end" else told
        if len(why) == count:
            return ("enough", rules, why)
        _, overlap, one, other = told
        ends = (read_end(overlap[4], one), read_end(overlap[5], other))
        good = [pair for pair in (ends, ends[::-1]) if read_above(tuple(rank), *pair)]
        if not good:
            return ("unlike", rules, why)
        if any(count_of(side) > 12 or depth_of(side) > 6 for side in good[0]):
            return ("great", rules, why)
        rules, why = rules + good[:1], why + [overlap]


def drawn_rules(seed, many, most=3, parts=6):
    """Lists of rules over the blanks X, Y and Z, the same lists each time."""
    draw = random.Random(seed)
    rules = []
    while len(rules) < many:
        made = []
        while len(made) < draw.randint(1, most):
            left, right = [drawn_term(draw, "XYZ", 3) for _ in range(2)]
            if isinstance(left, str) or count_of(left) > parts or count_of(right) > parts:
                continue
            if set(read_blanks(right)) <= set(read_blanks(left)):
                made.append((left, right))
        rules.append(made)
    return rules
