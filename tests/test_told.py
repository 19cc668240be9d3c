"""Promise 1: what is told, what is handed in, and what is refused."""

import unittest

from surfacehall.house import House
from tests.helpers import box, do, house_of, part, refused, state

# A whole evening: each call by its name and what is handed in.
EVENING = (
    [("join",), ("join",)]
    + [("tell", 0, letter) for letter in box(3, 1, 1, 3, 2, 1) + part(1, 3, 1, 0, 1, 1, 5) + [("show", 3)]]
    + [("tell", 1, letter) for letter in box(5, 2, 1, 3, 2, 2, rank=3)]
    + [("take", 0), ("take", 1), ("rest",), ("beat",), ("touch", ("down", 0, 2, 1)), ("key", 9)]
    + [("tell", 1, ("hold", 5)), ("take", 1), ("touch", ("down", 3, 0, 0)), ("touch", ("move", 0, 7, 3))]
    + [("tell", 1, ("let",)), ("rest",), ("touch", ("up", 3)), ("touch", ("down", 3, 1, 1)), ("key", 10)]
    + [("tell", 0, ("drop", 3)), ("take", 0), ("beat",), ("touch", ("up", 3)), ("join",)]
    + [("tell", 0, ("drop", 3)), ("take", 0), ("beat",), ("fall", 1), ("beat",), ("touch", ("up", 0))]
)


def refusals(house):
    """Tell calls that are refused whatever is done to the house behind its first join."""
    return [
        ("NoClient", house.tell, -1, ("make", 0)), ("NoClient", house.take, 5), ("NoClient", house.letters, 9),
        ("NoClient", house.fall, -1), ("NoClient", house.heard, 7), ("NoClient", house.tell, 5, ()),
        ("BadLetter", house.tell, house.clients()[-1], ("make", 10)), ("BadTouch", house.touch, ("down", 5, 0, 0)),
        ("BadTouch", house.touch, ("down", 1, 8, 0)), ("BadTouch", house.touch, ("move", 1, 0, 0)),
        ("BadTouch", house.touch, ("up", 1)), ("BadKey", house.key, 100),
    ]


class Told(unittest.TestCase):
    def setUp(self):
        self.house = house_of(2, 4, 2)
        do(self.house, 0, *box(0, 0, 0, 2, 2, 1))
        do(self.house, 1, *box(0, 1, 0, 2, 2, 2))
        self.house.tell(0, ("show", 0))
        self.house.beat()
        self.house.touch(("down", 0, 1, 1))

    def test_what_is_told_may_be_changed(self):
        before = state(self.house)
        for told in (self.house.clients(), self.house.heard(0), self.house.heard(1), self.house.standing()):
            self.assertIsInstance(told, list)
            told.append("more")
            told.reverse()
            told.pop()
        rows = self.house.screen()
        rows[0][0] = 9
        rows[1].append(3)
        rows.pop()
        self.assertEqual(state(self.house), before)
        self.house.beat()
        self.assertEqual(self.house.screen(), before[3])

    def test_what_a_beat_told_may_be_changed(self):
        do(self.house, 0, ("place", 0, 2, 0), ("show", 0))
        told = self.house.beat()
        screen = self.house.screen()
        told.clear()
        self.assertEqual(self.house.screen(), screen)
        self.assertEqual(self.house.beat(), [])

    def test_rows_of_the_screen_are_lists_of_their_own(self):
        rows = House(3, 3).screen()
        rows[0][0] = 5
        self.assertEqual(rows, [[5, 0, 0], [0, 0, 0], [0, 0, 0]])

    def test_what_was_told_stays_as_it_was(self):
        heard = self.house.heard(1)
        screen = self.house.screen()
        clients = self.house.clients()
        kept = (list(heard), [list(row) for row in screen], list(clients))
        self.house.touch(("up", 0))
        self.house.fall(0)
        self.house.beat()
        self.assertEqual((heard, screen, clients), kept)

    def test_asked_again_the_same_is_told(self):
        self.assertEqual(state(self.house), state(self.house))

    def test_kinds(self):
        self.assertIs(self.house.take(0), True)
        self.assertIs(self.house.take(0), False)
        self.assertIsInstance(self.house.letters(0), int)
        for told in self.house.heard(1) + self.house.standing():
            self.assertIsInstance(told, tuple)
        do(self.house, 1, ("drop", 0))
        for told in self.house.beat():
            self.assertIsInstance(told, tuple)
        for row in self.house.screen():
            self.assertIsInstance(row, list)

    def test_what_is_handed_in_is_not_changed(self):
        letter = ("paint", 0, 0, 0, 1, 1, 7)
        what = ("move", 0, 3, 1)
        do(self.house, 0, ("show", 0), letter)
        self.house.touch(what)
        self.assertEqual((letter, what), (("paint", 0, 0, 0, 1, 1, 7), ("move", 0, 3, 1)))

    def test_houses_have_nothing_in_common(self):
        other = House(4, 2)
        self.assertEqual(state(other), [[], [], [], [[0] * 4, [0] * 4], []])
        self.assertEqual(other.join(), 0)
        self.assertEqual(other.heard(0), [])


class Refused(unittest.TestCase):
    def test_what_is_refused_changes_nothing(self):
        plain, bothered = House(8, 4), House(8, 4)
        for word, *handed in EVENING:
            if bothered.clients():
                for error, call, *wrong in refusals(bothered):
                    before = state(bothered)
                    refused(self, error, call, *wrong)
                    self.assertEqual(state(bothered), before)
            self.assertEqual(getattr(bothered, word)(*handed), getattr(plain, word)(*handed), (word, handed))
            self.assertEqual(state(bothered), state(plain))
        for client in range(3):
            self.assertEqual(bothered.heard(client), plain.heard(client))

    def test_the_evening_as_it_was(self):
        house = House(8, 4)
        for word, *handed in EVENING:
            getattr(house, word)(*handed)
        self.assertEqual(house.clients(), [2])
        self.assertEqual(house.heard(0), [
            ("shown", 1), ("shown", 3), ("in", 3), ("down", 3, 3, 0, 0), ("key", 3, 10), ("gone", 3, 3), ("out", 3),
        ])
        self.assertEqual(house.heard(1), [
            ("shown", 5), ("in", 5), ("down", 5, 0, 0, 0), ("key", 5, 9), ("held", 5), ("down", 5, 3, -2, -1),
            ("move", 5, 0, 5, 2), ("free", 5), ("up", 5, 3), ("out", 5),
        ])
        self.assertEqual(house.screen(), [[0] * 8 for _ in range(4)])

    def test_a_sixth_join_changes_nothing(self):
        house = house_of(5)
        before = state(house)
        refused(self, "TooMany", house.join)
        self.assertEqual(state(house), before)
        refused(self, "TooMany", house.join)
