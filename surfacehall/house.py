"""The house: it takes its clients' letters, paints its screen, and passes on touches and keys."""

from surfacehall.client import Client
from surfacehall.deeds import do_first, fell
from surfacehall.errors import BadKey, BadLetter, BadTouch, NoClient, TooMany
from surfacehall.forms import MOST_CLIENTS, is_letter, is_touch, is_within
from surfacehall.hands import Hands
from surfacehall.laying import layers
from surfacehall.screen import Screen


class House:
    """A house with one screen, on which up to five clients draw."""

    def __init__(self, wide, high):
        self._screen = Screen(wide, high)
        self._clients = []
        self._hands = Hands()

    def join(self):
        """Take in a new client, and tell its number."""
        number = len(self._clients)
        if number >= MOST_CLIENTS:
            raise TooMany("a house has at most five clients, fallen ones too")
        self._clients.append(Client(number))
        return number

    def clients(self):
        """Tell the numbers of all clients that are there, rising."""
        return [each.number for each in self._clients if not each.fallen]

    def tell(self, client, letter):
        """Put a letter at the end of a client's row."""
        who = self._present(client)
        if not is_letter(letter):
            raise BadLetter("there is no such letter")
        who.row.append(letter)

    def take(self, client):
        """Do a client's first letter, and tell True, or False if there is none."""
        who = self._present(client)
        if len(who.row) == 0:
            return False
        do_first(who, self._hands)
        return True

    def rest(self):
        """Take all letters that there are, client by client."""
        for each in self._clients:
            while len(each.row) > 0:
                do_first(each, self._hands)

    def letters(self, client):
        """Tell how many letters are in a client's row."""
        return len(self._present(client).row)

    def fall(self, client):
        """Let a client fall."""
        fell(self._present(client), self._hands)

    def standing(self):
        """Tell (client, name, x, y, wide, high) of all surfaces that are seen, the lowest first."""
        return [
            (surface.owner.number, surface.name, x, y, surface.shown.wide, surface.shown.high)
            for surface, x, y in layers(self._clients)
        ]

    def beat(self):
        """Paint the screen, and tell (x, y, mark) of all cells that changed, by y, then x."""
        laid = layers(self._clients)
        for surface, x, y in laid:
            surface.laid_x = x
            surface.laid_y = y
        for each in self._clients:
            self._tell_shown(each)
        return self._screen.repaint(laid)

    def screen(self):
        """Tell the rows of marks, as painted last."""
        return [list(row) for row in self._screen.marks]

    def heard(self, client):
        """Tell all that a client heard, in turn, also of one that fell."""
        return list(self._known(client).notes)

    def touch(self, what):
        """Pass on a touch to the surface that the finger is with."""
        if not is_touch(what, self._screen.wide, self._screen.high):
            raise BadTouch("there is no such touch")
        finger = what[1]
        if self._hands.is_down(finger) == (what[0] == "down"):
            raise BadTouch("the finger is down already, or it isn't")
        match what:
            case ("down", _, x, y):
                self._hands.put_down(finger, self._screen.seen_at(x, y), x, y)
            case ("move", _, x, y):
                self._hands.report("move", finger, x, y)
            case _:
                self._hands.lift(finger)

    def key(self, number):
        """Pass on a key to the surface that has the focus."""
        if not is_within(number, 0, 99):
            raise BadKey("keys are 0 to 99")
        self._hands.strike(number)

    def _known(self, client):
        if not is_within(client, 0, len(self._clients) - 1):
            raise NoClient("there is no such client")
        return self._clients[client]

    def _present(self, client):
        who = self._known(client)
        if who.fallen:
            raise NoClient("that client fell")
        return who

    def _tell_shown(self, client):
        for name in sorted(client.surfaces):
            surface = client.surfaces[name]
            if surface.newly_shown:
                surface.newly_shown = False
                surface.let_hear("shown")
