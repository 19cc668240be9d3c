"""Promise 8: touches, the focus, and keys."""

import unittest

from tests.helpers import box, do, house_of, news, part, refused, state


class Fingers(unittest.TestCase):
    def setUp(self):
        """Client 0 has surface 3 at (1, 1), client 1 has surface 5 at (4, 1), both 3 wide and 2 high."""
        self.house = house_of(2, 8, 4)
        do(self.house, 0, *box(3, 1, 1, 3, 2, 1))
        do(self.house, 1, *box(5, 4, 1, 3, 2, 2))
        self.house.beat()

    def heard(self, client):
        """Tell what a client heard behind its first "shown"."""
        return news(self.house, client, 1)

    def touch(self, *touches):
        for what in touches:
            self.assertIsNone(self.house.touch(what))

    def test_down_move_and_up(self):
        self.touch(("down", 0, 2, 2), ("move", 0, 3, 2), ("up", 0))
        self.assertEqual(self.heard(0), [
            ("in", 3), ("down", 3, 0, 1, 1), ("move", 3, 0, 2, 1), ("up", 3, 0),
        ])
        self.assertEqual(self.heard(1), [])

    def test_each_cell_of_the_edge(self):
        self.touch(("down", 0, 1, 1), ("down", 1, 3, 2), ("down", 2, 4, 1), ("down", 3, 6, 2), ("down", 4, 7, 2))
        self.assertEqual(self.heard(0), [
            ("in", 3), ("down", 3, 0, 0, 0), ("down", 3, 1, 2, 1), ("out", 3),
        ])
        self.assertEqual(self.heard(1), [
            ("in", 5), ("down", 5, 2, 0, 0), ("down", 5, 3, 2, 1), ("out", 5),
        ])

    def test_a_finger_stays_with_its_surface(self):
        self.touch(("down", 0, 3, 1), ("move", 0, 5, 2), ("move", 0, 0, 0), ("move", 0, 7, 3), ("up", 0))
        self.assertEqual(self.heard(0)[1:], [
            ("down", 3, 0, 2, 0), ("move", 3, 0, 4, 1), ("move", 3, 0, -1, -1), ("move", 3, 0, 6, 2), ("up", 3, 0),
        ])
        self.assertEqual(self.heard(1), [])

    def test_a_finger_with_nobody_stays_with_nobody(self):
        self.touch(("down", 0, 0, 0), ("move", 0, 2, 2), ("up", 0))
        self.assertEqual((self.heard(0), self.heard(1)), ([], []))
        self.touch(("down", 0, 2, 2))
        self.assertEqual(self.heard(0), [("in", 3), ("down", 3, 0, 1, 1)])

    def test_several_fingers(self):
        self.touch(("down", 4, 1, 1), ("down", 2, 4, 1), ("move", 4, 2, 1), ("move", 2, 2, 1), ("up", 4), ("up", 2))
        self.assertEqual(self.heard(0), [
            ("in", 3), ("down", 3, 4, 0, 0), ("out", 3), ("move", 3, 4, 1, 0), ("up", 3, 4),
        ])
        self.assertEqual(self.heard(1), [
            ("in", 5), ("down", 5, 2, 0, 0), ("move", 5, 2, -2, 0), ("up", 5, 2),
        ])

    def test_two_fingers_of_one_surface(self):
        self.touch(("down", 1, 1, 1), ("down", 0, 3, 2), ("up", 1), ("down", 1, 2, 1))
        self.assertEqual(self.heard(0), [
            ("in", 3), ("down", 3, 1, 0, 0), ("down", 3, 0, 2, 1), ("up", 3, 1), ("down", 3, 1, 1, 0),
        ])

    def test_seen_is_who_was_seen_at_the_last_beat(self):
        do(self.house, 0, ("place", 3, 4, 1), ("rank", 3, 1), ("show", 3))
        self.touch(("down", 0, 4, 1), ("up", 0), ("down", 0, 1, 1), ("up", 0))
        self.assertEqual(self.heard(1), [("in", 5), ("down", 5, 0, 0, 0), ("up", 5, 0), ("out", 5)])
        self.assertEqual(self.heard(0), [("in", 3), ("down", 3, 0, 0, 0), ("up", 3, 0)])
        self.house.beat()
        self.touch(("down", 0, 4, 1), ("down", 1, 1, 1))
        self.assertEqual(self.heard(0)[3:], [("shown", 3), ("down", 3, 0, 0, 0), ("out", 3)])

    def test_nobody_is_seen_ahead_of_the_first_beat(self):
        house = house_of(1, 4, 4)
        do(house, 0, *box(0, 0, 0, 4, 4, 1))
        house.touch(("down", 0, 0, 0))
        self.assertEqual(house.heard(0), [])

    def test_the_uppermost_that_has_a_mark_is_seen(self):
        do(self.house, 1, *box(0, 0, 0, 8, 4, 7, rank=5), ("paint", 0, 2, 1, 1, 1, 0), ("show", 0))
        self.house.beat()
        self.touch(("down", 0, 2, 1), ("down", 1, 3, 1))
        self.assertEqual(self.heard(0), [("in", 3), ("down", 3, 0, 1, 0), ("out", 3)])
        self.assertEqual(self.heard(1)[-2:], [("in", 0), ("down", 0, 1, 3, 1)])

    def test_a_dropped_surface_is_seen_no_more_nor_is_who_was_under_it(self):
        do(self.house, 1, *box(0, 0, 0, 8, 4, 7, rank=5))
        self.house.beat()
        do(self.house, 1, ("drop", 0))
        self.touch(("down", 0, 2, 1), ("down", 1, 4, 1))
        self.assertEqual(self.heard(0), [])
        self.assertEqual(self.heard(1)[-1], ("shown", 0))
        self.house.beat()
        self.touch(("down", 2, 2, 1))
        self.assertEqual(self.heard(0), [("in", 3), ("down", 3, 2, 1, 0)])

    def test_a_surface_made_again_is_another_one(self):
        do(self.house, 0, ("drop", 3), *box(3, 1, 1, 3, 2, 1))
        self.touch(("down", 0, 1, 1))
        self.assertEqual(self.heard(0), [])
        self.house.beat()
        self.touch(("move", 0, 2, 1), ("down", 1, 1, 1))
        self.assertEqual(self.heard(0), [("shown", 3), ("in", 3), ("down", 3, 1, 0, 0)])

    def test_a_client_that_fell_is_seen_no_more(self):
        self.touch(("down", 0, 1, 1))
        self.house.fall(0)
        self.touch(("move", 0, 2, 1), ("up", 0), ("down", 0, 1, 1))
        self.assertEqual(self.heard(0), [("in", 3), ("down", 3, 0, 0, 0)])
        self.assertEqual(self.heard(1), [])

    def test_a_veiled_surface_keeps_its_fingers_and_its_last_place(self):
        self.touch(("down", 0, 2, 1))
        do(self.house, 0, ("veil", 3), ("place", 3, 0, 0), ("show", 3))
        self.touch(("down", 1, 1, 1))
        self.house.beat()
        self.touch(("move", 0, 5, 3), ("down", 2, 1, 1), ("up", 0))
        self.assertEqual(self.heard(0), [
            ("in", 3), ("down", 3, 0, 1, 0), ("down", 3, 1, 0, 0), ("shown", 3),
            ("move", 3, 0, 4, 2), ("out", 3), ("up", 3, 0),
        ])

    def test_a_surface_that_was_moved(self):
        self.touch(("down", 0, 2, 1))
        do(self.house, 0, ("place", 3, 5, -1), ("show", 3))
        self.touch(("move", 0, 2, 2))
        self.house.beat()
        self.touch(("move", 0, 2, 2))
        self.assertEqual(self.heard(0)[1:], [
            ("down", 3, 0, 1, 0), ("move", 3, 0, 1, 1), ("shown", 3), ("move", 3, 0, -3, 3),
        ])

    def test_a_surface_moved_off_the_screen_is_laid_all_the_same(self):
        self.touch(("down", 0, 2, 1))
        do(self.house, 0, ("place", 3, 20, -20), ("show", 3))
        self.house.beat()
        self.touch(("move", 0, 0, 0))
        self.assertEqual(self.heard(0)[-1], ("move", 3, 0, -20, 20))

    def test_places_of_parts_are_on_the_screen(self):
        do(self.house, 0, *part(1, 3, 1, 0, 1, 2, 8), *part(2, 1, 0, 1, 1, 1, 9), ("show", 3))
        self.house.beat()
        self.touch(("down", 0, 2, 1), ("down", 1, 2, 2), ("move", 0, 0, 0), ("move", 1, 0, 0))
        self.assertEqual(self.heard(0)[3:], [
            ("in", 1), ("down", 1, 0, 0, 0), ("out", 1), ("in", 2), ("down", 2, 1, 0, 0),
            ("move", 1, 0, -2, -1), ("move", 2, 1, -2, -2),
        ])

    def test_a_part_follows_its_top(self):
        do(self.house, 0, *part(1, 3, 1, 0, 1, 2, 8), ("show", 3))
        self.house.beat()
        self.touch(("down", 0, 2, 1))
        do(self.house, 0, ("place", 3, 0, 0), ("show", 3))
        self.house.beat()
        self.touch(("move", 0, 2, 2))
        self.assertEqual(self.heard(0)[-1], ("move", 1, 0, 1, 2))


class BadTouches(unittest.TestCase):
    def setUp(self):
        self.house = house_of(1, 8, 4)
        do(self.house, 0, *box(3, 0, 0, 8, 4, 1))
        self.house.beat()

    def check(self, *touches):
        before = state(self.house)
        for what in touches:
            refused(self, "BadTouch", self.house.touch, what)
        self.assertEqual(state(self.house), before)

    def test_a_finger_that_is_down_already(self):
        self.house.touch(("down", 2, 0, 0))
        self.check(("down", 2, 0, 0), ("down", 2, 1, 1))
        self.house.touch(("up", 2))
        self.house.touch(("down", 2, 0, 0))

    def test_a_finger_that_isnt_down(self):
        self.house.touch(("down", 2, 0, 0))
        self.check(("move", 1, 0, 0), ("up", 1), ("move", 0, 0, 0), ("up", 0))
        self.house.touch(("up", 2))
        self.check(("move", 2, 0, 0), ("up", 2))

    def test_other_words_of_a_finger_that_is_down(self):
        self.house.touch(("down", 2, 0, 0))
        self.check(("press", 2, 0, 0), ("", 2, 0, 0), ("Up", 2), ("up", 2, 0, 0), ("moved", 2, 1, 1), ("move", 2))
        self.house.touch(("move", 2, 1, 1))

    def test_a_finger_with_nobody_is_down_too(self):
        house = house_of(1, 2, 2)
        house.touch(("down", 0, 0, 0))
        refused(self, "BadTouch", house.touch, ("down", 0, 1, 1))
        house.touch(("up", 0))
        refused(self, "BadTouch", house.touch, ("up", 0))

    def test_the_least_and_the_greatest(self):
        for finger in (0, 4):
            for x, y in ((0, 0), (7, 0), (0, 3), (7, 3)):
                for what in (("down", finger, x, y), ("move", finger, 7 - x, 3 - y), ("up", finger)):
                    self.house.touch(what)

    def test_one_beyond(self):
        self.house.touch(("down", 0, 0, 0))
        self.check(("down", 5, 0, 0), ("down", -1, 0, 0), ("move", 5, 0, 0), ("up", 5), ("up", -1))
        for x, y in ((-1, 0), (0, -1), (8, 0), (0, 4), (12, 8)):
            self.check(("down", 1, x, y), ("move", 0, x, y))

    def test_other_words_and_other_numbers(self):
        self.house.touch(("down", 0, 0, 0))
        self.check((), ("",), ("Down", 1, 0, 0), ("tap", 1, 0, 0), ("down",), ("down", 1), ("down", 1, 0),
                   ("down", 1, 0, 0, 0), ("move", 0), ("move", 0, 1), ("move", 0, 1, 1, 1), ("up",), ("up", 0, 0, 0),
                   (1, 0, 0), ("down", "1", 0, 0), ("down", 1, "0", 0), ("down", 1, 0, ""), ("up", "0"),
                   ("down", True, 0, 0), ("up", False), ("make", 0), ["up", 0], "up")


class Focus(unittest.TestCase):
    def setUp(self):
        """Client 0 has the first cells (surface 3) and the next (4), client 1 the third (5)."""
        self.house = house_of(2, 4, 1)
        do(self.house, 0, *box(3, 0, 0, 1, 1, 1), *box(4, 1, 0, 1, 1, 1))
        do(self.house, 1, *box(5, 2, 0, 1, 1, 1))
        self.house.beat()

    def tap(self, *columns):
        for x in columns:
            self.house.touch(("down", 0, x, 0))
            self.house.touch(("up", 0))

    def heard(self, client):
        return [note for note in self.house.heard(client) if note[0] in ("in", "out", "key", "down")]

    def test_out_ahead_of_in_ahead_of_down(self):
        self.tap(0, 1)
        self.assertEqual(self.heard(0), [
            ("in", 3), ("down", 3, 0, 0, 0), ("out", 3), ("in", 4), ("down", 4, 0, 0, 0),
        ])

    def test_it_goes_to_another_client(self):
        self.tap(0, 2)
        self.assertEqual(self.heard(0), [("in", 3), ("down", 3, 0, 0, 0), ("out", 3)])
        self.assertEqual(self.heard(1), [("in", 5), ("down", 5, 0, 0, 0)])

    def test_the_same_one_again_hears_nothing_of_it(self):
        self.tap(0, 0)
        self.assertEqual(self.heard(0), [("in", 3), ("down", 3, 0, 0, 0), ("down", 3, 0, 0, 0)])

    def test_nobody_gets_it(self):
        self.tap(0, 3, 3)
        self.house.key(5)
        self.assertEqual(self.heard(0), [("in", 3), ("down", 3, 0, 0, 0), ("out", 3)])
        self.tap(0)
        self.assertEqual(self.heard(0)[3:], [("in", 3), ("down", 3, 0, 0, 0)])

    def test_move_and_up_leave_it(self):
        self.house.touch(("down", 0, 0, 0))
        self.house.touch(("move", 0, 2, 0))
        self.house.touch(("up", 0))
        self.house.key(1)
        self.assertEqual(self.heard(0)[-1], ("key", 3, 1))
        self.assertEqual(self.heard(1), [])

    def test_keys_go_to_the_focus(self):
        self.house.key(7)
        self.tap(0)
        self.house.key(0)
        self.tap(2)
        self.assertIsNone(self.house.key(99))
        self.tap(1)
        self.house.key(50)
        self.assertEqual([note for note in self.heard(0) if note[0] == "key"], [("key", 3, 0), ("key", 4, 50)])
        self.assertEqual([note for note in self.heard(1) if note[0] == "key"], [("key", 5, 99)])

    def test_a_veiled_one_keeps_it(self):
        self.tap(0)
        do(self.house, 0, ("veil", 3), ("show", 3))
        self.house.beat()
        self.house.key(8)
        self.assertEqual(self.heard(0)[-1], ("key", 3, 8))

    def test_bad_keys(self):
        self.tap(0)
        before = state(self.house)
        for number in (-1, 100, 1000, True, False):
            refused(self, "BadKey", self.house.key, number)
        self.assertEqual(state(self.house), before)
