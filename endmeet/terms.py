"""Terms of signs and blanks: their parts, places, blanks and signs."""

from endmeet.errors import NoPlace


def is_blank(term):
    """Whether a term is a blank."""
    return isinstance(term, str)


def inner_parts(term):
    """The parts that stand in a term's own tuple, in order."""
    if is_blank(term):
        return ()
    return term[1:]


def placed_parts(term):
    """Tuples (place, part there) for every place of a term, in the order of places."""
    found = []
    waiting = [((), term)]
    while waiting:
        place, part = waiting.pop()
        found.append((place, part))
        inner = [(place + (at,), held) for at, held in enumerate(inner_parts(part))]
        # The last one waiting is taken first, so the leftmost part has to come last.
        waiting.extend(inner[::-1])
    return found


def parts_of(term):
    """How many parts a term has, itself among them."""
    return len(placed_parts(term))


def places_of(term):
    """The places of a term, in the order of Python's tuples."""
    return [place for place, part in placed_parts(term)]


def blanks_of(term):
    """The blanks of a term in the order of first coming, each once."""
    found = []
    for place, part in placed_parts(term):
        if is_blank(part) and part not in found:
            found.append(part)
    return found


def signs_of(terms):
    """The signs of a list of terms in the letters' order, each once."""
    found = set()
    for term in terms:
        for place, part in placed_parts(term):
            if not is_blank(part):
                found.add(part[0])
    return sorted(found)


def way_to(term, place):
    """The terms that are met on the way to a place, from the whole term to the part there."""
    way = [term]
    for number in place:
        inner = inner_parts(way[-1])
        # Python would count a number below nought from the end; here it leads nowhere.
        if number < 0 or number >= len(inner):
            raise NoPlace(place)
        way.append(inner[number])
    return way


def part_at(term, place):
    """The term that stands at a place of a term."""
    return way_to(term, place)[-1]


def put_at(term, place, new):
    """The term that has a new one at a place, and everything else as it was."""
    wholes = way_to(term, place)[:-1]
    made = new
    for whole, number in reversed(list(zip(wholes, place))):
        made = whole[:number + 1] + (made,) + whole[number + 2:]
    return made
