"""Promises 1, 3 and 12: whatever the weaving, behind rest and a beat the screen is the one at rest."""

import random
import unittest

from surfacehall.alone import at_rest
from surfacehall.forms import LETTERS
from surfacehall.house import House

WORDS = ("make", "make", "size", "paint", "paint", "paint", "place", "rank", "veil", "unveil", "tie", "show", "show",
         "show", "drop", "hold", "let")


def some_letter(chance):
    """Tell a letter, of few names and of near places, so that surfaces meet."""
    word = chance.choice(WORDS)
    numbers = [chance.randint(max(least, -3), min(greatest, 4)) for least, greatest in LETTERS[word]]
    if word == "paint":
        numbers[1:5] = [0, 0, 1, 1] if chance.random() < 0.7 else [1, 0, 2, 2]
    return (word, *numbers)


def good_rows(chance, clients):
    """Tell letters for each of so many clients that nobody falls by."""
    rows = [[] for _ in range(clients)]
    for row in rows:
        while len(row) < 60:
            letter = some_letter(chance)
            if stays(row + [letter]):
                row.append(letter)
    return rows


def stays(letters):
    """Tell whether a client is still there when it told these letters."""
    house = House(1, 1)
    house.join()
    for letter in letters:
        house.tell(0, letter)
    house.rest()
    return house.clients() == [0]


def woven(rows, chance, falling=()):
    """Tell a house with these rows, taken in some weaving with beats, touches and keys.

    Some clients fall on the way, when they told about half of their row.
    """
    house = House(6, 4)
    for _ in rows:
        house.join()
    waiting = [list(row) for row in rows]
    while any(waiting[client] for client in house.clients()):
        client = chance.choice(house.clients())
        if waiting[client]:
            house.tell(client, waiting[client].pop(0))
        if chance.random() < 0.5:
            house.take(chance.choice(house.clients()))
        disturb(house, chance)
        for client in falling:
            if client in house.clients() and len(waiting[client]) < len(rows[client]) // 2:
                house.fall(client)
    house.rest()
    return house


def disturb(house, chance):
    """Beat, touch or strike a key, or let it be."""
    chance.choice((house.beat, house.standing, house.screen, house.clients))()
    house.key(chance.randint(0, 99))
    finger = chance.randint(0, 4)
    try:
        house.touch(("down", finger, chance.randint(0, 5), chance.randint(0, 3)))
    except ValueError:
        house.touch(chance.choice((("up", finger), ("move", finger, 0, 0))))


def told_by(rows, clients):
    """Tell the rows of these clients, and nothing for the others."""
    return [row if client in clients else [] for client, row in enumerate(rows)]


class Weaving(unittest.TestCase):
    def check(self, house, rows, clients):
        """Check a house at rest, with these clients there, and tell how many surfaces are seen."""
        self.assertEqual(house.clients(), clients)
        before = house.screen()
        for x, y, mark in house.beat():
            self.assertNotEqual(before[y][x], mark)
            before[y][x] = mark
        self.assertEqual(house.screen(), before)
        self.assertEqual(house.screen(), at_rest(6, 4, told_by(rows, clients)))
        return len(house.standing())

    def test_nobody_falls(self):
        seen = 0
        for seed in range(12):
            chance = random.Random(seed)
            rows = good_rows(chance, 5)
            for _ in range(3):
                seen += self.check(woven(rows, chance), rows, [0, 1, 2, 3, 4])
        self.assertGreater(seen, 36)

    def test_some_fall_by_a_letter(self):
        seen = 0
        for seed in range(12):
            chance = random.Random(100 + seed)
            rows = good_rows(chance, 4)
            rows[3].append(("paint", 0, 11, 7, 12, 8, 1))
            rows[1].insert(chance.randint(0, 60), ("tie", 0, 0))
            seen += self.check(woven(rows, chance), rows, [0, 2])
            # By the same letter who fell falls at rest, too.
            self.assertEqual(at_rest(6, 4, rows), at_rest(6, 4, told_by(rows, [0, 2])))
        self.assertGreater(seen, 12)

    def test_some_fall_by_fall(self):
        seen = 0
        for seed in range(12):
            chance = random.Random(200 + seed)
            rows = good_rows(chance, 5)
            rows[4].append(("tie", 0, 0))
            seen += self.check(woven(rows, chance, falling=(0, 2)), rows, [1, 3])
        self.assertGreater(seen, 12)

    def test_nothing_waits_behind_rest(self):
        chance = random.Random(300)
        rows = good_rows(chance, 3)
        house = House(6, 4)
        for client, row in enumerate(rows):
            house.join()
            for letter in row:
                house.tell(client, letter)
        house.fall(1)
        house.rest()
        self.check(house, rows, [0, 2])

    def test_all_fell(self):
        rows = [[("make", 0), ("paint", 0, 0, 0, 1, 1, 3), ("show", 0)], [("drop", 0)]]
        house = woven(rows, random.Random(400))
        house.fall(0)
        self.check(house, rows, [])
