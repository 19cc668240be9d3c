"""Which surfaces are seen, and how they are laid over one another."""


def laying_order(surface):
    """Tell by what surfaces at the same depth are ordered, the lowest first."""
    return (surface.shown.rank, surface.owner.number, surface.name)


def lay(laid, surfaces, x, y):
    """Add those of the surfaces that are seen to what is laid, each with its parts upon it.

    Their places are told from (x, y).
    """
    for surface in sorted([each for each in surfaces if each.is_unveiled()], key=laying_order):
        left = x + surface.shown.x
        top = y + surface.shown.y
        laid.append((surface, left, top))
        lay(laid, list(surface.parts.values()), left, top)


def layers(clients):
    """Tell (surface, x, y) of all that are seen, the lowest first, x and y on the screen."""
    laid = []
    lay(laid, [each for client in clients for each in client.surfaces.values() if each.top is None], 0, 0)
    return laid
