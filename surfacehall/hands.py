"""Where the fingers, the focus and the hold are."""


class Hands:
    """The fingers that are down, each with its surface or None; the focus; who holds."""

    def __init__(self):
        self.fingers = {}
        self.focus = None
        self.holder = None

    def is_down(self, finger):
        """Tell whether the finger is down, be it with nobody."""
        return finger in self.fingers

    def put_down(self, finger, seen, x, y):
        """Put a finger down where that surface is seen, or None."""
        if self.holder is None:
            self.turn_focus(seen)
            self.fingers[finger] = seen
        else:
            self.fingers[finger] = self.holder
        self.report("down", finger, x, y)

    def report(self, word, finger, x, y):
        """Tell where a finger is to the surface that it is with."""
        surface = self.fingers[finger]
        if surface is not None:
            surface.let_hear(word, finger, x - surface.laid_x, y - surface.laid_y)

    def lift(self, finger):
        """Take a finger up."""
        surface = self.fingers.pop(finger)
        if surface is not None:
            surface.let_hear("up", finger)

    def turn_focus(self, surface):
        """Give the focus to a surface, or to nobody."""
        if surface == self.focus:
            return
        if self.focus is not None:
            self.focus.let_hear("out")
        if surface is not None:
            surface.let_hear("in")
        self.focus = surface

    def strike(self, number):
        """Tell a key to the surface that has the focus."""
        if self.focus is not None:
            self.focus.let_hear("key", number)

    def hold_fast(self, surface):
        """Let a surface hold, if it has the focus and nobody else holds."""
        # Who holds keeps the focus: if this one has it, nobody else holds.
        if surface == self.focus:
            self.holder = surface
            surface.let_hear("held")
        else:
            surface.let_hear("free")

    def let_go(self, client):
        """End the hold, if one of the client's surfaces holds."""
        holder = self.holder
        if holder is not None and holder.owner == client:
            self.holder = None
            holder.let_hear("free")

    def forget(self, surface):
        """Take fingers, focus and hold from a surface that goes."""
        if surface == self.holder:
            self.holder = None
        lost = [finger for finger in sorted(self.fingers) if self.fingers[finger] == surface]
        for finger in lost:
            self.fingers[finger] = None
            surface.let_hear("gone", finger)
        if surface == self.focus:
            self.turn_focus(None)
