"""What becomes of packets by a list of rules (points 102 and 103)."""

from throughline.net.seeds import draw

CHANCES = 1000


class Verdict:
    """What becomes of one packet."""

    def __init__(self, *, lost=False, marked=False, copies=0, delay=1):
        self.lost = lost
        self.marked = marked
        self.copies = copies
        self.delay = delay

    @property
    def arrivals(self):
        return 0 if self.lost else self.copies + 1

    def __eq__(self, other):
        if not isinstance(other, Verdict):
            return False
        return self._fields() == other._fields()

    def _fields(self):
        return self.lost, self.marked, self.copies, self.delay


class Faults:
    """Judges packets, one after another."""

    def __init__(self, rules, *, seed):
        self.seed = seed
        self.counts = [0 for _ in rules]
        self._rules = [rule.fork() for rule in rules]

    def judge(self, sender, target, birth):
        """Returns what becomes of the packet."""
        verdict = Verdict()
        for at, rule in enumerate(self._rules):
            if rule.considers(sender, target, birth):
                self.counts[at] += 1
                if self._applies(rule, self.counts[at]):
                    self._apply(rule, verdict)
        return verdict

    def _applies(self, rule, count):
        if rule.nth is not None and count % rule.nth != 0:
            return False
        return rule.chance is None or self._draw(CHANCES) < rule.chance

    def _apply(self, rule, verdict):
        if rule.fault == "lose":
            verdict.lost = True
        elif rule.fault == "mark":
            verdict.marked = True
        elif rule.fault == "copy":
            verdict.copies += rule.amount
        elif rule.amount == rule.until:
            verdict.delay = rule.amount
        else:
            verdict.delay = rule.amount + self._draw(rule.until - rule.amount + 1)

    def _draw(self, below):
        self.seed, number = draw(self.seed, below)
        return number
