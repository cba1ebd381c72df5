"""What one house says to one other house, in order and each message once."""

BLANK = ("blank",)


class Line:
    """The messages from a house to another one, and how many came from there.

    Letters are lost, late and doubled. So each one holds all messages that
    are not known to be seen, with the number of the first: whichever of them
    comes, the other house takes just those that it did not take yet.
    """

    def __init__(self, here, there):
        self.here = here
        self.there = there
        self.first = 0
        self.waiting = []
        self.fresh = False
        self.taken = 0

    def put(self, message):
        """Let a message wait for the next letter, and for all until it is seen."""
        self.waiting.append(message)
        self.fresh = True

    def recall(self, message):
        """Blank a message where it waits; its number stays, for it may have come."""
        self.waiting = [BLANK if other == message else other for other in self.waiting]

    def news(self):
        """Make the letter of all messages that wait."""
        self.fresh = False
        return (self.there, (self.here, "news", self.first, tuple(self.waiting)))

    def receipt(self):
        """Make the letter that tells how many messages were taken."""
        return (self.there, (self.here, "seen", self.taken))

    def take(self, first, messages):
        """Tell those of the other house's messages that were not taken yet."""
        # It forgets only what was taken here: so none is missing ahead of these.
        untaken = list(messages[self.taken - first:])
        self.taken += len(untaken)
        return untaken

    def forget(self, seen):
        """Let messages wait no longer that the other house took."""
        # A late receipt tells of fewer than are forgotten already.
        if seen > self.first:
            self.waiting = self.waiting[seen - self.first:]
            self.first = seen
