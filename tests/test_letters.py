"""Promise 4: what each letter does, pending and shown."""

import unittest

from tests.helpers import box, do, house_of, looks


class Pending(unittest.TestCase):
    def setUp(self):
        self.house = house_of(1, 6, 4)

    def do(self, *letters):
        do(self.house, 0, *letters)

    def looks(self):
        return looks(self.house).split("\n")

    def test_a_new_surface_is_not_shown(self):
        self.do(("make", 0))
        self.assertEqual(self.house.standing(), [])

    def test_a_new_surface_as_it_is(self):
        self.do(("make", 0), ("show", 0))
        self.assertEqual(self.house.standing(), [(0, 0, 0, 0, 1, 1)])
        self.assertEqual(self.looks(), ["......"] * 4)

    def test_a_new_surface_has_rank_0(self):
        self.do(*box(3, 0, 0, 1, 1, 3), *box(9, 0, 0, 1, 1, 2), *box(0, 0, 0, 1, 1, 2, rank=1))
        self.do(("make", 5), ("show", 5))
        self.assertEqual([row[1] for row in self.house.standing()], [3, 5, 9, 0])

    def test_size_is_pending(self):
        self.do(("make", 0), ("show", 0), ("size", 0, 3, 2))
        self.assertEqual(self.house.standing(), [(0, 0, 0, 0, 1, 1)])
        self.do(("show", 0))
        self.assertEqual(self.house.standing(), [(0, 0, 0, 0, 3, 2)])

    def test_the_least_and_the_greatest_size(self):
        self.do(("make", 0), ("size", 0, 12, 8), ("show", 0))
        self.assertEqual(self.house.standing(), [(0, 0, 0, 0, 12, 8)])
        self.do(("size", 0, 1, 1), ("show", 0))
        self.assertEqual(self.house.standing(), [(0, 0, 0, 0, 1, 1)])

    def test_new_cells_have_mark_0(self):
        self.do(*box(0, 0, 0, 2, 2, 5), ("size", 0, 4, 3), ("show", 0))
        self.assertEqual(self.looks(), ["55....", "55....", "......", "......"])

    def test_cells_beyond_are_gone(self):
        self.do(*box(0, 0, 0, 4, 3, 5), ("size", 0, 2, 1), ("show", 0))
        self.assertEqual(self.looks(), ["55....", "......", "......", "......"])

    def test_cells_that_were_beyond_come_back_with_mark_0(self):
        self.do(*box(0, 0, 0, 4, 3, 5), ("size", 0, 2, 2), ("size", 0, 4, 3), ("show", 0))
        self.assertEqual(self.looks(), ["55....", "55....", "......", "......"])

    def test_a_size_wider_and_less_high(self):
        self.do(*box(0, 0, 0, 2, 3, 5), ("size", 0, 5, 1), ("show", 0))
        self.assertEqual(self.looks(), ["55....", "......", "......", "......"])

    def test_paint_is_pending(self):
        self.do(*box(0, 0, 0, 3, 3, 1), ("paint", 0, 1, 1, 2, 1, 7))
        self.assertEqual(self.looks(), ["111...", "111...", "111...", "......"])
        self.do(("show", 0))
        self.assertEqual(self.looks(), ["111...", "177...", "111...", "......"])

    def test_paint_over_paint(self):
        self.do(*box(0, 0, 0, 4, 2, 1), ("paint", 0, 0, 0, 2, 2, 2), ("paint", 0, 1, 0, 2, 1, 3), ("show", 0))
        self.assertEqual(self.looks(), ["2331..", "2211..", "......", "......"])

    def test_paint_with_0_is_seen_through(self):
        self.do(*box(0, 0, 0, 3, 1, 4), *box(1, 0, 0, 3, 1, 9), ("paint", 1, 1, 0, 1, 1, 0), ("show", 1))
        self.assertEqual(self.looks(), ["949...", "......", "......", "......"])

    def test_paint_at_the_edge_of_the_pending_size(self):
        self.do(*box(0, 0, 0, 3, 2, 1), ("size", 0, 5, 3), ("paint", 0, 4, 2, 1, 1, 9), ("show", 0))
        self.assertEqual(self.looks(), ["111...", "111...", "....9.", "......"])
        self.do(("size", 0, 12, 8), ("paint", 0, 11, 7, 1, 1, 9), ("paint", 0, 0, 0, 12, 8, 2), ("show", 0))
        self.assertEqual(self.looks(), ["222222"] * 4)

    def test_place_is_pending(self):
        self.do(*box(0, 1, 1, 2, 1, 3), ("place", 0, 4, 2))
        self.assertEqual(self.house.standing(), [(0, 0, 1, 1, 2, 1)])
        self.do(("show", 0))
        self.assertEqual(self.looks(), ["......", "......", "....33", "......"])

    def test_the_farthest_places(self):
        self.do(*box(0, -20, 20, 2, 1, 3))
        self.assertEqual(self.house.standing(), [(0, 0, -20, 20, 2, 1)])
        self.do(("place", 0, 20, -20), ("show", 0))
        self.assertEqual(self.house.standing(), [(0, 0, 20, -20, 2, 1)])

    def test_rank_is_pending(self):
        self.do(*box(0, 0, 0, 1, 1, 3), *box(1, 0, 0, 1, 1, 4), ("rank", 0, 9))
        self.assertEqual(self.looks()[0], "4.....")
        self.do(("show", 0))
        self.assertEqual(self.looks()[0], "3.....")

    def test_veil_and_unveil_are_pending(self):
        self.do(*box(0, 0, 0, 1, 1, 3), ("veil", 0))
        self.assertEqual(self.looks()[0], "3.....")
        self.do(("show", 0))
        self.assertEqual(self.looks()[0], "......")
        self.do(("unveil", 0))
        self.assertEqual(self.looks()[0], "......")
        self.do(("show", 0))
        self.assertEqual(self.looks()[0], "3.....")

    def test_what_is_pending_goes_on_from_what_was(self):
        self.do(*box(0, 1, 1, 2, 2, 3), ("paint", 0, 0, 0, 1, 1, 8), ("show", 0), ("place", 0, 2, 1), ("show", 0))
        self.assertEqual(self.looks(), ["......", "..83..", "..33..", "......"])

    def test_drop_is_at_once(self):
        self.do(*box(0, 0, 0, 2, 1, 3), *box(1, 0, 1, 2, 1, 4), ("drop", 0))
        self.assertEqual(self.house.standing(), [(0, 1, 0, 1, 2, 1)])
        self.assertEqual(self.looks(), ["......", "44....", "......", "......"])

    def test_a_dropped_name_can_be_made_again(self):
        self.do(*box(0, 2, 1, 2, 2, 3, rank=4), ("drop", 0), ("make", 0))
        self.assertEqual(self.house.standing(), [])
        self.do(("show", 0))
        self.assertEqual(self.house.standing(), [(0, 0, 0, 0, 1, 1)])
        self.assertEqual(self.looks(), ["......"] * 4)

    def test_all_ten_names(self):
        for name in range(10):
            self.do(("make", name), ("show", name))
        self.assertEqual([row[1] for row in self.house.standing()], list(range(10)))

    def test_clients_have_names_of_their_own(self):
        self.house.join()
        self.do(*box(0, 0, 0, 1, 1, 3))
        do(self.house, 1, *box(0, 1, 0, 1, 1, 4))
        self.do(("drop", 0))
        self.assertEqual(self.house.standing(), [(1, 0, 1, 0, 1, 1)])
