"""Rules of a script of faults (points 100 and 102)."""


class Rule:
    """Which packets a fault befalls, and which fault."""

    def __init__(self, fault, *, amount=0, until=0, sender=None, target=None, ticks=None, nth=None, chance=None):
        self.fault = fault
        self.amount = amount
        self.until = until
        self.sender = sender
        self.target = target
        self.ticks = ticks
        self.nth = nth
        self.chance = chance

    def considers(self, sender, target, birth):
        """Returns whether the rule considers a packet with these values."""
        if self.sender is not None and sender != self.sender:
            return False
        if self.target is not None and target != self.target:
            return False
        return self.ticks is None or self.ticks[0] <= birth <= self.ticks[1]

    def fork(self):
        """Returns an equal rule of its own."""
        return Rule(self.fault, amount=self.amount, until=self.until, sender=self.sender, target=self.target,
                    ticks=self.ticks, nth=self.nth, chance=self.chance)

    def __eq__(self, other):
        if not isinstance(other, Rule):
            return False
        return self._fields() == other._fields()

    def _fields(self):
        return (self.fault, self.amount, self.until, self.sender, self.target, self.ticks, self.nth, self.chance)


def format_rule(rule):
    """Returns the rule as text."""
    words = []
    if rule.sender is not None:
        words.append(f"from {rule.sender}")
    if rule.target is not None:
        words.append(f"to {rule.target}")
    if rule.ticks is not None:
        words.append("ticks " + _format_range(rule.ticks[0], rule.ticks[1]))
    if rule.nth is not None:
        words.append(f"nth {rule.nth}")
    if rule.chance is not None:
        words.append(f"chance {rule.chance}")
    words.append(rule.fault)
    if rule.fault == "copy":
        words.append(str(rule.amount))
    if rule.fault == "delay":
        words.append(_format_range(rule.amount, rule.until))
    return " ".join(words)


def _format_range(first, last):
    return str(first) if first == last else f"{first}..{last}"
