"""Which numbers, letters and touches are well formed."""

# Each word's numbers, in turn: the least and the greatest of each.
LETTERS = {
    "make": ((0, 9),),
    "drop": ((0, 9),),
    "size": ((0, 9), (1, 12), (1, 8)),
    "paint": ((0, 9), (0, 11), (0, 7), (1, 12), (1, 8), (0, 9)),
    "place": ((0, 9), (-20, 20), (-20, 20)),
    "rank": ((0, 9), (0, 9)),
    "veil": ((0, 9),),
    "unveil": ((0, 9),),
    "tie": ((0, 9), (0, 9)),
    "show": ((0, 9),),
    "hold": ((0, 9),),
    "let": (),
}
LAST_FINGER = 4
MOST_CLIENTS = 5


def is_within(value, least, greatest):
    """Tell whether the value is a whole number from the least to the greatest."""
    # Python counts True and False among the integers, the house does not.
    if isinstance(value, bool) or not isinstance(value, int):
        return False
    return least <= value <= greatest


def are_within(numbers, bounds):
    """Tell whether there are as many numbers as bounds, each within its own."""
    if len(numbers) != len(bounds):
        return False
    return all([is_within(number, least, greatest) for number, (least, greatest) in zip(numbers, bounds)])


def is_letter(letter):
    """Tell whether this is a letter, whatever surfaces there are."""
    if not isinstance(letter, tuple) or len(letter) == 0:
        return False
    bounds = LETTERS.get(letter[0])
    return bounds is not None and are_within(letter[1:], bounds)


def touch_bounds(word, wide, high):
    """Tell the bounds of a touch's numbers on a screen of this size, or None for no touch."""
    if word == "up":
        return ((0, LAST_FINGER),)
    if word == "down" or word == "move":
        return ((0, LAST_FINGER), (0, wide - 1), (0, high - 1))
    return None


def is_touch(what, wide, high):
    """Tell whether this is a touch of a screen of this size, whichever fingers are down."""
    if not isinstance(what, tuple) or len(what) == 0:
        return False
    bounds = touch_bounds(what[0], wide, high)
    return bounds is not None and are_within(what[1:], bounds)
