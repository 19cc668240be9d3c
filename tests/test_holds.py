"""Promise 9: hold and let."""

import unittest

from tests.helpers import box, do, house_of


class Holds(unittest.TestCase):
    def setUp(self):
        """Client 0 has cell 0 (surface 3) and cell 1 (4), client 1 has cell 2 (5); cell 3 is nobody's."""
        self.house = house_of(2, 4, 1)
        do(self.house, 0, *box(3, 0, 0, 1, 1, 1), *box(4, 1, 0, 1, 1, 1))
        do(self.house, 1, *box(5, 2, 0, 1, 1, 1))
        self.house.beat()
        self.told = [len(self.house.heard(0)), len(self.house.heard(1))]

    def news(self, client):
        """Tell what a client heard since it was asked last."""
        heard = self.house.heard(client)[self.told[client]:]
        self.told[client] += len(heard)
        return heard

    def tap(self, *columns):
        for x in columns:
            self.house.touch(("down", 0, x, 0))
            self.house.touch(("up", 0))
        return self.news(0), self.news(1)

    def do(self, client, *letters):
        do(self.house, client, *letters)
        return self.news(client)

    def test_who_has_the_focus_holds(self):
        self.tap(0)
        self.assertEqual(self.do(0, ("hold", 3)), [("held", 3)])

    def test_who_has_not_the_focus_does_not(self):
        self.assertEqual(self.do(0, ("hold", 3)), [("free", 3)])
        self.tap(0)
        self.assertEqual(self.do(0, ("hold", 4)), [("free", 4)])
        self.assertEqual(self.do(1, ("hold", 5)), [("free", 5)])
        self.tap(3)
        self.assertEqual(self.do(0, ("hold", 3)), [("free", 3)])
        self.assertEqual(self.tap(2), ([], [("in", 5), ("down", 5, 0, 0, 0), ("up", 5, 0)]))

    def test_who_holds_may_hold_again(self):
        self.tap(0)
        self.assertEqual(self.do(0, ("hold", 3), ("hold", 3)), [("held", 3), ("held", 3)])
        self.assertEqual(self.do(0, ("let",), ("let",)), [("free", 3)])

    def test_while_one_holds_another_one_is_free(self):
        self.tap(0)
        self.do(0, ("hold", 3))
        self.assertEqual(self.do(0, ("hold", 4)), [("free", 4)])
        self.assertEqual(self.do(1, ("hold", 5)), [("free", 5)])
        self.tap(2)
        self.assertEqual(self.do(1, ("hold", 5)), [("free", 5)])
        self.assertEqual(self.tap(1), ([("down", 3, 0, 1, 0), ("up", 3, 0)], []))

    def test_each_finger_that_goes_down_goes_to_who_holds(self):
        self.tap(0)
        self.do(0, ("hold", 3))
        down = [("down", 3, 0, 2, 0), ("up", 3, 0), ("down", 3, 0, 3, 0), ("up", 3, 0)]
        self.assertEqual(self.tap(2, 3), (down, []))
        self.house.touch(("down", 4, 1, 0))
        self.house.touch(("move", 4, 2, 0))
        self.assertEqual(self.news(0), [("down", 3, 4, 1, 0), ("move", 3, 4, 2, 0)])

    def test_the_focus_stays(self):
        self.tap(0)
        self.do(0, ("hold", 3))
        self.tap(2)
        self.house.key(6)
        self.assertEqual((self.news(0), self.news(1)), ([("key", 3, 6)], []))
        self.do(0, ("let",))
        self.house.key(7)
        self.assertEqual(self.news(0), [("key", 3, 7)])

    def test_fingers_that_were_down_stay_where_they_were(self):
        self.house.touch(("down", 1, 2, 0))
        self.house.touch(("down", 2, 3, 0))
        self.tap(0)
        self.do(0, ("hold", 3))
        self.house.touch(("move", 1, 1, 0))
        self.house.touch(("move", 2, 1, 0))
        self.assertEqual((self.news(0), self.news(1)), ([], [("move", 5, 1, -1, 0)]))
        self.house.touch(("down", 0, 3, 0))
        self.do(0, ("let",))
        self.house.touch(("move", 0, 2, 0))
        self.assertEqual(self.news(0), [("move", 3, 0, 2, 0)])

    def test_let_frees(self):
        self.tap(0)
        self.do(0, ("hold", 3))
        self.assertEqual(self.do(0, ("let",)), [("free", 3)])
        self.assertEqual(self.tap(2)[1], [("in", 5), ("down", 5, 0, 0, 0), ("up", 5, 0)])
        self.assertEqual(self.do(1, ("hold", 5)), [("held", 5)])

    def test_let_with_nothing_held(self):
        self.tap(0)
        self.assertEqual(self.do(0, ("let",)), [])

    def test_let_of_another_client(self):
        self.tap(0)
        self.do(0, ("hold", 3))
        self.assertEqual(self.do(1, ("let",)), [])
        self.assertEqual(self.news(0), [])
        self.assertEqual(self.tap(2)[1], [])

    def test_hold_is_at_once_and_of_what_was_shown_or_not(self):
        self.tap(0)
        self.do(0, ("make", 7))
        self.assertEqual(self.do(0, ("hold", 7)), [("free", 7)])
        self.assertEqual(self.do(0, ("hold", 3)), [("held", 3)])

    def test_who_holds_is_told_its_last_place(self):
        self.tap(0)
        self.do(0, ("hold", 3), ("place", 3, 3, -2), ("veil", 3), ("show", 3))
        self.house.beat()
        self.news(0)
        self.assertEqual(self.tap(2)[0], [("down", 3, 0, 2, 0), ("up", 3, 0)])
        self.do(0, ("unveil", 3), ("show", 3))
        self.house.beat()
        self.news(0)
        self.assertEqual(self.tap(2)[0], [("down", 3, 0, -1, 2), ("up", 3, 0)])
