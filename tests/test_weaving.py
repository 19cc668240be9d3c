"""Promises 1 and 3: the house takes letters in any weaving, and the screen at rest is the same."""

import random
import unittest

from surfacehall.forms import LETTERS
from surfacehall.house import House

WORDS = ("make", "make", "size", "paint", "paint", "paint", "place", "rank", "veil", "unveil", "tie", "show", "show",
         "show", "drop", "hold", "let")


def some_letter(chance):
    """Tell a letter, of few names and of near places, so that surfaces meet."""
    word = chance.choice(WORDS)
    numbers = [chance.randint(max(least, -3), min(greatest, 4)) for least, greatest in LETTERS[word]]
    if word == "paint":
        numbers[1:5] = [0, 0, 1, 1] if chance.random() < 0.7 else [1, 0, 2, 2]
    return (word, *numbers)


def good_rows(chance):
    """Tell letters for each of three clients that nobody falls by, but for the last one of client 2."""
    rows = [[], [], []]
    for row in rows:
        while len(row) < 60:
            letter = some_letter(chance)
            if stays(row + [letter]):
                row.append(letter)
    rows[2].append(("paint", 0, 11, 7, 12, 8, 1))
    return rows


def stays(letters):
    """Tell whether a client is still there when it told these letters."""
    house = House(1, 1)
    house.join()
    for letter in letters:
        house.tell(0, letter)
    house.rest()
    return house.clients() == [0]


def at_rest(rows, clients):
    """Tell the screen by these clients' letters alone, taken at once."""
    house = House(6, 4)
    for client in range(3):
        house.join()
        for letter in rows[client] if client in clients else []:
            house.tell(client, letter)
    house.rest()
    house.beat()
    return house.screen()


def woven(rows, chance):
    """Tell a house with these rows, taken in some weaving with beats, touches and keys."""
    house = House(6, 4)
    for _ in range(3):
        house.join()
    waiting = [list(row) for row in rows]
    while any(waiting):
        there = house.clients()
        client = chance.choice(there)
        if waiting[client]:
            house.tell(client, waiting[client].pop(0))
        if chance.random() < 0.5:
            house.take(chance.choice(there))
        disturb(house, chance)
    house.rest()
    return house


def disturb(house, chance):
    """Beat, touch or strike a key, or let it be."""
    chance.choice((house.beat, house.standing, house.screen, house.clients))()
    house.key(chance.randint(0, 99))
    finger = chance.randint(0, 4)
    try:
        house.touch(("down", finger, chance.randint(0, 5), chance.randint(0, 3)))
    except ValueError:
        house.touch(chance.choice((("up", finger), ("move", finger, 0, 0))))


class Weaving(unittest.TestCase):
    def test_the_screen_is_the_same_by_any_weaving(self):
        seen = 0
        for seed in range(25):
            chance = random.Random(seed)
            rows = good_rows(chance)
            house = woven(rows, chance)
            before = house.screen()
            changed = house.beat()
            for x, y, mark in changed:
                self.assertNotEqual(before[y][x], mark)
                before[y][x] = mark
            self.assertEqual(house.clients(), [0, 1])
            self.assertEqual(house.screen(), before)
            self.assertEqual(house.screen(), at_rest(rows, [0, 1]))
            seen += len(house.standing())
        self.assertGreater(seen, 25)
