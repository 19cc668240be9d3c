"""What the tests of the house have in common."""

from surfacehall import errors
from surfacehall.house import House

REFUSALS = ("BadSize", "TooMany", "NoClient", "BadLetter", "BadTouch", "BadKey", "BadText")


def house_of(clients, wide=12, high=8):
    """Tell a house that so many clients joined."""
    house = House(wide, high)
    for _ in range(clients):
        house.join()
    return house


def do(house, client, *letters):
    """Tell a client letters, and take them one by one."""
    for letter in letters:
        house.tell(client, letter)
        assert house.take(client) is True


def box(name, x, y, wide, high, mark, rank=0):
    """Tell the letters that show a new surface, all its cells of one mark."""
    return [
        ("make", name),
        ("size", name, wide, high),
        ("paint", name, 0, 0, wide, high, mark),
        ("place", name, x, y),
        ("rank", name, rank),
        ("show", name),
    ]


def part(name, other, x, y, wide, high, mark, rank=0):
    """Tell the letters that make a new surface ready as a part of another one."""
    letters = box(name, x, y, wide, high, mark, rank)
    return letters[:-1] + [("tie", name, other), letters[-1]]


def looks(house):
    """Beat, and tell the screen as a text, a row a line, with a point for each 0."""
    house.beat()
    return "\n".join("".join(str(mark) for mark in row) for row in house.screen()).replace("0", ".")


def state(house):
    """Tell all that a house tells of itself without a change."""
    there = house.clients()
    return [
        there,
        [house.letters(client) for client in there],
        house.standing(),
        house.screen(),
        [house.heard(client) for client in range(5) if client in there],
    ]


def news(house, client, since):
    """Tell what a client heard behind its first so many notes."""
    return house.heard(client)[since:]


def refused(case, word, call, *handed):
    """Check that a call is refused by just this error, which is one of no other kind."""
    with case.assertRaises(ValueError) as caught:
        call(*handed)
    error = caught.exception
    case.assertIsInstance(error, errors.HallError, handed)
    case.assertEqual(error.__class__, getattr(errors, word), handed)
    for other in REFUSALS:
        case.assertEqual(isinstance(error, getattr(errors, other)), other == word, handed)
