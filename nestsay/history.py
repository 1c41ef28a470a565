"""Histories: deeds that can be undone and done again."""

MOST_UNDONE = 100


class History:
    """past has the deeds that can be undone, ahead those that can be redone, each the one that is due last."""

    def __init__(self):
        self.past = []
        self.ahead = []

    def put_in(self, deed):
        """A deed is done: what could be redone is forgotten."""
        self.past.append(deed)
        if len(self.past) > MOST_UNDONE:
            del self.past[0]
        self.ahead = []

    def go_back(self):
        """The deed that is due is undone."""
        self.ahead.append(self.past.pop())

    def go_on(self):
        """The deed that is due is redone."""
        self.past.append(self.ahead.pop())
