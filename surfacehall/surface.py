"""Surfaces, and how they look."""


class Look:
    """How a surface looks in one of its states: pending, ready or shown."""

    def __init__(self):
        self.wide = 1
        self.high = 1
        self.marks = [[0]]
        self.x = 0
        self.y = 0
        self.rank = 0
        self.veiled = False

    def snapshot(self):
        """Tell a look like this one, that later changes of this one leave alone."""
        look = Look()
        look.wide = self.wide
        look.high = self.high
        look.marks = [list(row) for row in self.marks]
        look.x = self.x
        look.y = self.y
        look.rank = self.rank
        look.veiled = self.veiled
        return look

    def mark_at(self, x, y):
        """Tell the mark of a cell, 0 beyond the size."""
        if x < self.wide and y < self.high:
            return self.marks[y][x]
        return 0

    def resize(self, wide, high):
        """Take another size: new cells have mark 0, cells beyond are gone."""
        self.marks = [[self.mark_at(x, y) for x in range(wide)] for y in range(high)]
        self.wide = wide
        self.high = high

    def has_cells(self, x, y, wide, high):
        """Tell whether so many cells from (x, y) on are all within the size."""
        return x + wide <= self.wide and y + high <= self.high

    def fill(self, x, y, wide, high, mark):
        """Give the mark to so many cells from (x, y) on."""
        for row in range(y, y + high):
            for column in range(x, x + wide):
                self.marks[row][column] = mark


class Surface:
    """A surface of a client: its looks, its parts, and what the last beats made of it."""

    def __init__(self, owner, name):
        self.owner = owner
        self.name = name
        # A dropped surface may still be on the screen of the last beat, and a new
        # one may have its name: whether it is there is told by the surface itself.
        self.there = True
        self.top = None
        self.parts = {}
        self.pending = Look()
        self.ready = None
        self.shown = None
        self.newly_shown = False
        self.laid_x = 0
        self.laid_y = 0

    def let_hear(self, word, *numbers):
        """Let the client hear a word of this surface."""
        self.owner.hear((word, self.name, *numbers))

    def family(self):
        """Tell this surface, then its parts by names rising, each with its own behind it."""
        found = [self]
        for name in sorted(self.parts):
            found.extend(self.parts[name].family())
        return found

    def tie_to(self, other):
        """Become a part of another surface."""
        self.top = other
        other.parts[self.name] = self

    def show(self):
        """Show what is pending, with what is ready of all parts; of a part make it ready."""
        self.ready = self.pending.snapshot()
        if self.top is None:
            for surface in self.family():
                surface.show_ready()

    def show_ready(self):
        """Show what is ready, if something is; then it is ready no more."""
        if self.ready is None:
            return
        self.shown = self.ready
        self.ready = None
        self.newly_shown = True

    def is_unveiled(self):
        """Tell whether it was shown, and is not veiled by what is shown of it."""
        return self.shown is not None and not self.shown.veiled
