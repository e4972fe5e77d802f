"""What is told: how the reigns run, the entries, and up to which year it's looked at."""

from reignyears.history import History


class Entry:
    """Never changed once it's made, since states in the history share it."""

    def __init__(self, name, reign_year, known):
        self.name = name
        self.reign_year = reign_year
        self.known = known


class Chronicle:
    """The one object that all calls are made on."""

    def __init__(self):
        self.begin(1, 2, 0, 0)

    def begin(self, reign_length, name_total, first_year, last_year):
        self.reign_length = reign_length
        self.name_total = name_total
        self.first_year = first_year
        self.last_year = last_year
        self.entries = []
        self.history = History()

    def has_entry(self, i):
        return i < len(self.entries)

    def state(self):
        """All that a change can change."""
        return (self.entries, self.last_year)

    def return_to(self, state):
        self.entries = state[0]
        self.last_year = state[1]

    def change_entries(self, entries):
        """Takes a new list: the one before stays in the history as it is."""
        self.history.note_change(self.state())
        self.entries = entries

    def change_last_year(self, last_year):
        self.history.note_change(self.state())
        self.last_year = last_year

    def change_known(self, i, known):
        """Year known, or None, becomes the one that entry i is known to have been in."""
        old = self.entries[i]
        new = Entry(old.name, old.reign_year, known)
        self.change_entries(self.entries[:i] + [new] + self.entries[i + 1:])

    def step_back(self):
        """The last change is taken back; there must be one that can be."""
        self.return_to(self.history.take_back(self.state()))

    def step_again(self):
        """The last change taken back is done again; there must be one."""
        self.return_to(self.history.do_again(self.state()))
