"""The screen at rest, by what clients tell and by nothing else."""

from surfacehall.house import House


def at_rest(wide, high, books):
    """Tell the screen that the letters of clients 0, 1 and so on come to, a list for each client."""
    house = House(wide, high)
    # All join ahead of the letters: a sixth list is refused ahead of them, too.
    for _ in books:
        house.join()
    for client, letters in enumerate(books):
        for letter in letters:
            house.tell(client, letter)
    house.rest()
    house.beat()
    return house.screen()
