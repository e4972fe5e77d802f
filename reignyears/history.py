"""What was before each change, so that changes can be taken back and done again."""

from reignyears.bounds import MOST_CHANGES


class History:
    """Keeps states as they are handed in; whoever hands one in must not change it any more."""

    def __init__(self):
        self.past = []
        self.undone = []

    def note_change(self, before):
        """A new change: what was taken back till now can't be done again."""
        kept = self.past + [before]
        self.past = kept[max(0, len(kept) - MOST_CHANGES):]
        self.undone = []

    def take_back(self, present):
        """The state before the last change; there must be one that can be taken back."""
        self.undone.append(present)
        return self.past.pop()

    def do_again(self, present):
        """The state behind the last change taken back; there must be one that was."""
        self.past.append(present)
        return self.undone.pop()
