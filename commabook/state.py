"""What a list of calls keeps from one call to the next."""

MOST_COMMAS = 6


class Book:
    """The object that the calls are made on."""

    def __init__(self):
        self.commas = []
        self.notes = []

    def is_full(self):
        """Whether no comma more can be kept."""
        return len(self.commas) >= MOST_COMMAS

    def keep_comma(self, row):
        """Keep the row behind the commas there are."""
        self.commas = self.commas + [list(row)]

    def drop_commas(self):
        """Keep no commas."""
        self.commas = []

    def has_scale(self):
        """Whether there's a scale: one has a note at least."""
        return len(self.notes) > 0

    def take_scale(self, notes):
        """Make the scale that of the notes."""
        self.notes = [list(note) for note in notes]
