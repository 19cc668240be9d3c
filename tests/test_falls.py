"""Promises 4 and 5: letters that can't be, and clients that fall."""

import unittest

from tests.helpers import box, do, house_of, looks, part


class CannotBe(unittest.TestCase):
    def check(self, letters, bad, falls=True):
        house = house_of(3, 6, 4)
        do(house, 0, *box(0, 0, 0, 2, 2, 1))
        do(house, 2, *box(0, 4, 0, 2, 2, 2))
        do(house, 1, *letters)
        self.assertEqual(house.clients(), [0, 1, 2])
        house.tell(1, bad)
        for letter in box(9, 0, 0, 1, 1, 9):
            house.tell(1, letter)
        self.assertIs(house.take(1), True)
        if not falls:
            self.assertEqual(house.clients(), [0, 1, 2])
            self.assertEqual(house.letters(1), 6)
            return
        self.assertEqual(house.clients(), [0, 2])
        house.rest()
        self.assertEqual(house.standing(), [(0, 0, 0, 0, 2, 2), (2, 0, 4, 0, 2, 2)])
        self.assertEqual(looks(house), "11..22\n11..22\n......\n......")
        self.assertEqual(house.heard(1), [])
        self.assertEqual(house.heard(0), [("shown", 0)])

    def test_a_name_that_isnt_there(self):
        for bad in (("drop", 3), ("size", 3, 1, 1), ("paint", 3, 0, 0, 1, 1, 1), ("place", 3, 0, 0), ("rank", 3, 1),
                    ("veil", 3), ("unveil", 3), ("tie", 3, 4), ("show", 3), ("hold", 3)):
            self.check([("make", 4), ("show", 4)], bad)

    def test_a_name_of_another_client(self):
        self.check([], ("show", 0))

    def test_a_name_that_was_dropped(self):
        self.check([("make", 3), ("drop", 3)], ("show", 3))
        self.check([("make", 3), ("drop", 3)], ("drop", 3))
        self.check([("make", 3), ("make", 4), ("tie", 4, 3), ("drop", 3)], ("show", 4))

    def test_make_of_one_that_is_there(self):
        self.check([("make", 3)], ("make", 3))
        self.check([("make", 3), ("show", 3)], ("make", 3))
        self.check([("make", 3), ("drop", 3)], ("make", 3), falls=False)

    def test_let_needs_no_name(self):
        self.check([], ("let",), falls=False)

    def test_paint_beyond_the_pending_size(self):
        made = [("make", 3), ("size", 3, 4, 3)]
        for x, y, wide, high in ((0, 0, 5, 1), (0, 0, 1, 4), (4, 0, 1, 1), (0, 3, 1, 1), (3, 2, 2, 1), (3, 2, 1, 2),
                                 (11, 7, 12, 8)):
            self.check(made, ("paint", 3, x, y, wide, high, 1))
        for x, y, wide, high in ((0, 0, 4, 3), (3, 2, 1, 1), (0, 2, 4, 1), (3, 0, 1, 3)):
            self.check(made, ("paint", 3, x, y, wide, high, 1), falls=False)

    def test_the_pending_size_counts_not_the_shown_one(self):
        larger = box(3, 0, 0, 2, 2, 1) + [("size", 3, 4, 3)]
        self.check(larger, ("paint", 3, 0, 0, 4, 3, 1), falls=False)
        smaller = box(3, 0, 0, 4, 3, 1) + [("size", 3, 2, 2)]
        self.check(smaller, ("paint", 3, 0, 0, 3, 2, 1))
        self.check(smaller, ("paint", 3, 0, 0, 2, 2, 1), falls=False)

    def test_paint_of_a_new_surface(self):
        self.check([("make", 3)], ("paint", 3, 0, 0, 1, 1, 1), falls=False)
        self.check([("make", 3)], ("paint", 3, 0, 0, 2, 1, 1))
        self.check([("make", 3)], ("paint", 3, 0, 0, 1, 2, 1))

    def test_a_tie_to_one_that_isnt_there(self):
        self.check([("make", 3)], ("tie", 3, 4))

    def test_a_tie_to_itself(self):
        self.check([("make", 3)], ("tie", 3, 3))

    def test_a_tie_of_one_that_was_shown(self):
        self.check([("make", 3), ("make", 4), ("show", 3)], ("tie", 3, 4))
        self.check([("make", 3), ("make", 4), ("veil", 3), ("show", 3)], ("tie", 3, 4))
        self.check([("make", 3), ("make", 4), ("show", 4)], ("tie", 3, 4), falls=False)

    def test_a_tie_of_one_that_was_ready(self):
        self.check([("make", 3), ("make", 4), ("make", 5), ("tie", 3, 4), ("show", 3)], ("tie", 3, 5))

    def test_a_tie_of_a_part(self):
        made = [("make", 3), ("make", 4), ("make", 5), ("tie", 3, 4)]
        self.check(made, ("tie", 3, 5))
        self.check(made, ("tie", 3, 4))

    def test_a_tie_of_one_that_has_parts(self):
        made = [("make", 3), ("make", 4), ("make", 5), ("tie", 4, 3)]
        self.check(made, ("tie", 3, 5))
        self.check(made, ("tie", 3, 4))

    def test_a_tie_to_a_part_and_to_a_part_of_a_part(self):
        made = [("make", 3), ("make", 4), ("make", 5), ("make", 6), ("tie", 4, 3)]
        self.check(made, ("tie", 5, 4), falls=False)
        self.check(made + [("tie", 5, 4)], ("tie", 6, 5))
        self.check(made + [("tie", 5, 4)], ("tie", 6, 4), falls=False)
        self.check(made + [("tie", 5, 4)], ("tie", 6, 3), falls=False)


class Fallen(unittest.TestCase):
    def test_it_is_gone_with_its_surfaces_and_their_parts(self):
        house = house_of(2, 6, 4)
        do(house, 0, *box(0, 0, 0, 4, 1, 1), *part(1, 0, 1, 0, 2, 1, 2), *part(2, 1, 1, 0, 1, 1, 3), ("show", 0))
        do(house, 1, *box(0, 0, 2, 2, 1, 5))
        self.assertEqual(looks(house), "1231..\n......\n55....\n......")
        house.fall(0)
        self.assertEqual(house.standing(), [(1, 0, 0, 2, 2, 1)])
        self.assertEqual(looks(house), "......\n......\n55....\n......")

    def test_the_screen_stays_until_the_beat(self):
        house = house_of(1, 2, 1)
        do(house, 0, *box(0, 0, 0, 2, 1, 5))
        house.beat()
        house.fall(0)
        self.assertEqual(house.screen(), [[5, 5]])
        self.assertEqual(house.beat(), [(0, 0, 0), (1, 0, 0)])

    def test_it_hears_nothing_more(self):
        house = house_of(1, 4, 4)
        do(house, 0, *box(0, 0, 0, 2, 2, 5))
        house.beat()
        house.touch(("down", 0, 1, 1))
        do(house, 0, ("hold", 0), ("show", 0))
        heard = house.heard(0)
        house.fall(0)
        house.beat()
        house.key(4)
        house.touch(("move", 0, 2, 2))
        house.touch(("up", 0))
        house.touch(("down", 1, 1, 1))
        self.assertEqual(house.heard(0), heard)

    def test_its_number_is_not_given_again(self):
        house = house_of(1)
        house.fall(0)
        self.assertEqual(house.join(), 1)
        self.assertEqual(house.clients(), [1])
