"""The refusals: one class for each, all under EndError."""


class EndError(ValueError):
    """Any refusal."""

    def __init__(self, text):
        ValueError.__init__(self, text)


class NoPlace(EndError):
    """A place that a term doesn't have."""

    def __init__(self, place):
        EndError.__init__(self, f"the term has no place {place}")
        self.place = place


class NoRule(EndError):
    """A pair of terms that is no rule."""

    def __init__(self, rule):
        EndError.__init__(self, f"this is no rule: {rule}")
        self.rule = rule


class TwoCounts(EndError):
    """A sign that stands with two counts of parts."""

    def __init__(self, sign):
        EndError.__init__(self, f"the sign {sign} stands with two counts of parts")
        self.sign = sign


class TooLong(EndError):
    """A chain that is too long, or comes to too great a term."""

    def __init__(self, term):
        EndError.__init__(self, f"the chain is too long, or comes to too great a term, from {term}")
        self.term = term


class NoRank(EndError):
    """Rules that go down by no rank, or not by the one handed in."""

    def __init__(self, rules):
        EndError.__init__(self, f"by no such rank these rules go down: {rules}")
        self.rules = rules
