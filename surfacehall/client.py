"""A client of a house."""


class Client:
    """A client: its row of letters, its surfaces by name, and what it heard."""

    def __init__(self, number):
        self.number = number
        self.fallen = False
        self.row = []
        self.surfaces = {}
        self.notes = []

    def hear(self, note):
        """Let the client hear a note, unless it fell."""
        if not self.fallen:
            self.notes.append(note)
