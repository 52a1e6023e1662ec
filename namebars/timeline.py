"""The views of the days, by one list of acts."""

from namebars.view import View


class Timeline:
    """Each view is made once, as one question may look at the same day for many names."""

    def __init__(self, book, acts):
        self.book = book
        self.acts = acts
        self.views = {}

    def at_day(self, d):
        if d not in self.views:
            self.views[d] = View(self.book, self.acts, d)
        return self.views[d]
