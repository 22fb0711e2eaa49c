"""Findings: places where records break a rule (point 122)."""


class Finding:
    """A problem of the record with an index."""

    def __init__(self, index, problem):
        self.index = index
        self.problem = problem

    def __eq__(self, other):
        if not isinstance(other, Finding):
            return False
        return self.index == other.index and self.problem == other.problem
