"""What letters do, and when they can't be."""

from surfacehall.surface import Surface


def can_tie(surfaces, name, other):
    """Tell whether a surface that is there can become a part of the other one."""
    if name == other or other not in surfaces:
        return False
    surface = surfaces[name]
    # Nothing is ready but of parts: the test for a part is the one for that, too.
    if surface.shown is not None or surface.top is not None or len(surface.parts) > 0:
        return False
    above = surfaces[other].top
    return above is None or above.top is None


def can_be(surfaces, letter):
    """Tell whether a letter can be, by the surfaces of its client."""
    match letter:
        case ("let",):
            return True
        case ("make", name):
            return name not in surfaces
        case ("paint", name, x, y, wide, high, _):
            return name in surfaces and surfaces[name].pending.has_cells(x, y, wide, high)
        case ("tie", name, other):
            return name in surfaces and can_tie(surfaces, name, other)
        case _:
            return letter[1] in surfaces


def change_look(look, letter):
    """Do a letter that changes what is pending."""
    match letter:
        case ("size", _, wide, high):
            look.resize(wide, high)
        case ("paint", _, x, y, wide, high, mark):
            look.fill(x, y, wide, high, mark)
        case ("place", _, x, y):
            look.x = x
            look.y = y
        case ("rank", _, rank):
            look.rank = rank
        case ("veil", _):
            look.veiled = True
        case ("unveil", _):
            look.veiled = False


def drop(client, hands, surface):
    """Let a surface go with its parts, and theirs."""
    if surface.top is not None:
        siblings = surface.top.parts
        del siblings[surface.name]
    for each in surface.family():
        del client.surfaces[each.name]
        each.there = False
        hands.forget(each)


def do_letter(client, hands, letter):
    """Do a letter that can be."""
    surfaces = client.surfaces
    match letter:
        case ("make", name):
            surfaces[name] = Surface(client, name)
        case ("drop", name):
            drop(client, hands, surfaces[name])
        case ("tie", name, other):
            surfaces[name].tie_to(surfaces[other])
        case ("show", name):
            surfaces[name].show()
        case ("hold", name):
            hands.hold_fast(surfaces[name])
        case ("let",):
            hands.let_go(client)
        case _:
            change_look(surfaces[letter[1]].pending, letter)


def fell(client, hands):
    """Let a client fall, with its surfaces and its row."""
    # It falls ahead of its surfaces, so that it does not hear of their going.
    client.fallen = True
    client.row = []
    for surface in list(client.surfaces.values()):
        surface.there = False
        hands.forget(surface)
    client.surfaces = {}


def do_first(client, hands):
    """Do the first letter of a client's row; by one that can't be, the client falls."""
    letter = client.row.pop(0)
    if can_be(client.surfaces, letter):
        do_letter(client, hands, letter)
    else:
        fell(client, hands)
