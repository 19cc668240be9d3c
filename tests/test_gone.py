"""Promise 10: surfaces that go with fingers, the focus or the hold."""

import unittest

from tests.helpers import box, do, house_of, news, part


class Gone(unittest.TestCase):
    def setUp(self):
        """Client 0's surface 5 has parts 2 (with a part 7) and 3, each one column; client 1 has the last."""
        self.house = house_of(2, 6, 1)
        do(self.house, 0, *box(5, 0, 0, 1, 1, 1))
        do(self.house, 0, *part(3, 5, 1, 0, 1, 1, 2), *part(2, 5, 2, 0, 1, 1, 3), *part(7, 2, 1, 0, 1, 1, 4))
        do(self.house, 0, ("show", 5))
        do(self.house, 1, *box(0, 4, 0, 1, 1, 9))
        self.house.beat()
        self.assertEqual(self.house.screen(), [[1, 2, 3, 4, 9, 0]])

    def down(self, *columns):
        """Put down finger 4 at the first column, finger 3 at the next, and so on."""
        for k, x in enumerate(columns):
            self.house.touch(("down", 4 - k, x, 0))

    def after(self, client, *letters):
        """Tell what client 0 hears of the letters that a client tells."""
        told = len(self.house.heard(0))
        do(self.house, client, *letters)
        return news(self.house, 0, told)

    def test_fingers_are_with_nobody(self):
        self.down(0, 0, 0)
        self.assertEqual(self.after(0, ("drop", 5)), [("gone", 5, 2), ("gone", 5, 3), ("gone", 5, 4), ("out", 5)])
        told = self.house.heard(0)
        for what in (("move", 2, 0, 0), ("up", 2), ("move", 3, 1, 0)):
            self.house.touch(what)
        self.assertEqual(self.house.heard(0), told)

    def test_they_are_down_until_they_are_up(self):
        self.down(0)
        do(self.house, 0, ("drop", 5))
        with self.assertRaises(ValueError):
            self.house.touch(("down", 4, 4, 0))
        self.house.touch(("up", 4))
        self.house.touch(("down", 4, 4, 0))
        self.assertEqual(self.house.heard(1)[-1], ("down", 0, 4, 0, 0))

    def test_the_surface_first_then_its_parts_by_names_each_with_its_own(self):
        self.down(1, 3, 0, 2)
        self.assertEqual(self.after(0, ("drop", 5)), [
            ("gone", 5, 2), ("gone", 2, 1), ("out", 2), ("gone", 7, 3), ("gone", 3, 4),
        ])

    def test_out_stands_behind_gone_of_each_surface(self):
        self.down(0, 2, 3, 2, 0)
        self.assertEqual(self.after(0, ("drop", 5)), [
            ("gone", 5, 0), ("gone", 5, 4), ("out", 5), ("gone", 2, 1), ("gone", 2, 3), ("gone", 7, 2),
        ])

    def test_a_part_that_goes(self):
        self.down(0, 2, 3)
        self.assertEqual(self.after(0, ("drop", 2)), [("gone", 2, 3), ("gone", 7, 2), ("out", 7)])
        self.house.touch(("move", 4, 1, 0))
        self.assertEqual(self.house.heard(0)[-1], ("move", 5, 4, 1, 0))

    def test_nobody_has_the_focus(self):
        self.down(0)
        do(self.house, 0, ("drop", 5))
        told = self.house.heard(0)
        self.house.key(3)
        self.assertEqual(self.house.heard(0), told)
        self.house.touch(("down", 0, 4, 0))
        self.assertEqual(self.house.heard(0), told)
        self.assertEqual(self.house.heard(1), [("shown", 0), ("in", 0), ("down", 0, 0, 0, 0)])

    def test_the_focus_of_another_one_stays(self):
        self.down(0, 4)
        self.assertEqual(self.after(0, ("drop", 5)), [("gone", 5, 4)])
        self.house.key(3)
        self.assertEqual(self.house.heard(1)[-1], ("key", 0, 3))

    def test_the_hold_is_over_and_nothing_is_heard_of_it(self):
        self.down(3)
        self.assertEqual(self.after(0, ("hold", 7)), [("held", 7)])
        self.assertEqual(self.after(0, ("drop", 5)), [("gone", 7, 4), ("out", 7)])
        self.assertEqual(self.after(0, ("let",)), [])
        self.house.touch(("down", 0, 4, 0))
        self.assertEqual(self.house.heard(1)[-1], ("down", 0, 0, 0, 0))

    def test_the_hold_of_another_one_stays(self):
        self.down(3)
        do(self.house, 0, ("hold", 7))
        self.assertEqual(self.after(0, ("drop", 3)), [])
        self.house.touch(("down", 0, 4, 0))
        self.assertEqual(self.house.heard(0)[-1], ("down", 7, 0, 1, 0))
        self.assertEqual(self.house.heard(1), [("shown", 0)])

    def test_a_surface_without_any_hears_nothing(self):
        self.assertEqual(self.after(0, ("drop", 5)), [])

    def test_a_surface_made_again_has_nothing_of_the_old_one(self):
        self.down(0)
        do(self.house, 0, ("hold", 5))
        self.assertEqual(self.after(0, ("drop", 5), *box(5, 0, 0, 1, 1, 1)), [("gone", 5, 4), ("out", 5)])
        self.house.beat()
        told = len(self.house.heard(0))
        self.house.touch(("move", 4, 0, 0))
        self.house.key(4)
        self.assertEqual(self.after(0, ("hold", 5), ("let",)), [("free", 5)])
        self.house.touch(("down", 0, 0, 0))
        self.assertEqual(news(self.house, 0, told), [("free", 5), ("in", 5), ("down", 5, 0, 0, 0)])

    def test_by_a_fall_nothing_is_heard(self):
        self.down(0, 3)
        do(self.house, 0, ("hold", 7))
        told = self.house.heard(0)
        self.house.fall(0)
        self.assertEqual(self.house.heard(0), told)
        self.house.key(4)
        self.house.touch(("move", 4, 4, 0))
        self.house.touch(("up", 3))
        self.house.touch(("down", 0, 4, 0))
        self.assertEqual(self.house.heard(0), told)
        self.assertEqual(self.house.heard(1), [("shown", 0), ("in", 0), ("down", 0, 0, 0, 0)])

    def test_by_a_letter_that_cant_be_nothing_is_heard(self):
        self.down(0, 3)
        do(self.house, 0, ("hold", 7))
        self.assertEqual(self.after(0, ("make", 5)), [])
        self.assertEqual(self.house.clients(), [1])
        self.house.touch(("down", 0, 4, 0))
        self.assertEqual(self.house.heard(1)[-1], ("down", 0, 0, 0, 0))

    def test_another_client_keeps_all(self):
        self.down(4, 0)
        self.house.touch(("down", 0, 4, 0))
        do(self.house, 1, ("hold", 0))
        self.house.fall(0)
        self.house.touch(("move", 4, 0, 0))
        self.house.key(2)
        self.house.touch(("down", 1, 0, 0))
        self.assertEqual(self.house.heard(1)[-3:], [("move", 0, 4, -4, 0), ("key", 0, 2), ("down", 0, 1, -4, 0)])
