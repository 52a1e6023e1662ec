"""What holds at one day, by the acts of that day's past."""

from namebars.kinds import ADVANCE
from namebars.kinds import PLACE
from namebars.kinds import REVIVE
from namebars.kinds import SINK
from namebars.kinds import STATUS

COUNTING_STATUSES = (0, 1)


class View:
    """The acts are handed in in their order, so that a later one takes the place of an earlier one."""

    def __init__(self, book, acts, d):
        self.book = book
        self.d = d
        self.statuses = {}
        self.given_days = {}
        self.placements = {}
        self.sunk_into = {}
        for act in acts:
            if act.day <= d:
                self.follow(act)

    def follow(self, act):
        if act.kind == PLACE:
            self.placements[act.a] = act.b
        elif act.kind == SINK:
            self.sink_genus(act.a, act.b)
        elif act.kind == REVIVE:
            self.sunk_into.pop(act.a, None)
        elif act.kind == STATUS:
            self.statuses[act.a] = act.b
        elif act.kind == ADVANCE:
            self.given_days[act.a] = act.b

    def sink_genus(self, a, b):
        # A ring would have no head, so an act that would close one does nothing.
        if not self.leads_to(b, a):
            self.sunk_into[a] = b

    def leads_to(self, start, goal):
        key = start
        while key != goal and key in self.sunk_into:
            key = self.sunk_into[key]
        return key == goal

    def head(self, genus_key):
        key = genus_key
        while key in self.sunk_into:
            key = self.sunk_into[key]
        return key

    def placed_in(self, species):
        return self.placements.get(species.key, species.first_genus)

    def home(self, species):
        return self.head(self.placed_in(species))

    def status(self, name):
        return self.statuses.get(name.key, 0)

    def counts(self, name):
        return name.is_out(self.d) and self.status(name) in COUNTING_STATUSES

    def precedence(self, name):
        """Five numbers: of two names, the one with the lesser list is before the other."""
        given_day = self.given_days.get(name.key, name.day)
        return [given_day, name.day, name.work, name.page, name.key]

    def is_before(self, one, other):
        return self.precedence(one) < self.precedence(other)

    def names_in_order(self, names):
        """Those of these names that are out, each before the next."""
        return sorted([name for name in names if name.is_out(self.d)], key=self.precedence)
