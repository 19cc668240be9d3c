"""Promise 4: parts, and parts of parts."""

import unittest

from tests.helpers import box, do, house_of, looks, part


class Parts(unittest.TestCase):
    def setUp(self):
        self.house = house_of(1, 6, 4)

    def do(self, *letters):
        do(self.house, 0, *letters)

    def names(self):
        return [row[1] for row in self.house.standing()]

    def row(self):
        return looks(self.house).split("\n")[0]

    def test_a_part_is_shown_with_its_top(self):
        self.do(*box(0, 0, 0, 4, 1, 1), *part(1, 0, 1, 0, 1, 1, 2))
        self.assertEqual(self.names(), [0])
        self.do(("show", 0))
        self.assertEqual(self.names(), [0, 1])
        self.assertEqual(self.row(), "1211..")

    def test_a_part_that_was_not_made_ready_is_not_shown(self):
        self.do(*box(0, 0, 0, 4, 1, 1), *part(1, 0, 1, 0, 1, 1, 2)[:-1], ("show", 0))
        self.assertEqual(self.names(), [0])
        self.do(("show", 1))
        self.assertEqual(self.names(), [0])
        self.do(("show", 0))
        self.assertEqual(self.names(), [0, 1])

    def test_what_is_pending_of_a_part_is_not_shown_with_its_top(self):
        self.do(*box(0, 0, 0, 4, 1, 1), *part(1, 0, 1, 0, 1, 1, 2), ("paint", 1, 0, 0, 1, 1, 3), ("show", 0))
        self.assertEqual(self.row(), "1211..")

    def test_what_is_ready_is_in_the_place_of_what_was(self):
        self.do(*box(0, 0, 0, 4, 1, 1), *part(1, 0, 1, 0, 1, 1, 2))
        self.do(("paint", 1, 0, 0, 1, 1, 3), ("show", 1), ("place", 1, 2, 0), ("show", 1), ("show", 0))
        self.assertEqual(self.row(), "1131..")

    def test_what_is_shown_of_a_part_stays_while_more_is_ready(self):
        self.do(*box(0, 0, 0, 4, 1, 1), *part(1, 0, 1, 0, 1, 1, 2), ("show", 0))
        self.do(("paint", 1, 0, 0, 1, 1, 3), ("veil", 1), ("show", 1))
        self.assertEqual(self.row(), "1211..")
        self.do(("show", 0))
        self.assertEqual(self.row(), "1111..")

    def test_every_top_shows_its_own_parts_alone(self):
        self.do(*box(0, 0, 0, 2, 1, 1), *part(1, 0, 1, 0, 1, 1, 2))
        self.do(*box(2, 3, 0, 2, 1, 3), *part(3, 2, 1, 0, 1, 1, 4), ("show", 2))
        self.assertEqual(self.row(), "11.34.")

    def test_three_deep_is_shown_with_the_first_top(self):
        self.do(*box(0, 0, 0, 5, 1, 1), *part(1, 0, 1, 0, 3, 1, 2), *part(2, 1, 1, 0, 1, 1, 3))
        self.assertEqual(self.row(), "11111.")
        self.do(("show", 0))
        self.assertEqual(self.row(), "12321.")
        self.assertEqual(self.house.standing(), [(0, 0, 0, 0, 5, 1), (0, 1, 1, 0, 3, 1), (0, 2, 2, 0, 1, 1)])

    def test_to_show_the_middle_one_makes_it_ready_and_shows_nothing(self):
        self.do(*box(0, 0, 0, 5, 1, 1), *part(1, 0, 1, 0, 3, 1, 2), *part(2, 1, 1, 0, 1, 1, 3), ("show", 0))
        self.do(("paint", 2, 0, 0, 1, 1, 4), ("show", 2), ("paint", 1, 0, 0, 3, 1, 5), ("show", 1))
        self.assertEqual(self.row(), "12321.")
        self.do(("show", 0))
        self.assertEqual(self.row(), "15451.")

    def test_a_ready_one_upon_one_that_is_not(self):
        self.do(*box(0, 0, 0, 5, 1, 1), *part(1, 0, 1, 0, 3, 1, 2)[:-1], *part(2, 1, 1, 0, 1, 1, 3), ("show", 0))
        self.assertEqual(self.names(), [0])
        self.do(("show", 1))
        self.assertEqual(self.names(), [0])
        self.do(("show", 0))
        self.assertEqual(self.names(), [0, 1, 2])

    def test_a_tie_is_from_now_on(self):
        self.do(*box(0, 1, 1, 2, 1, 1), ("make", 1), ("tie", 1, 0), ("show", 1))
        self.assertEqual(self.names(), [0])
        self.do(("drop", 0))
        self.do(("make", 1), ("show", 1))
        self.assertEqual(self.house.standing(), [(0, 1, 0, 0, 1, 1)])

    def test_a_tie_to_one_that_was_never_shown(self):
        self.do(("make", 0), ("make", 1), ("tie", 1, 0), ("show", 1))
        self.assertEqual(self.names(), [])
        self.do(("show", 0))
        self.assertEqual(self.names(), [0, 1])

    def test_drop_takes_parts_and_theirs(self):
        self.do(*box(0, 0, 0, 5, 1, 1), *part(1, 0, 1, 0, 3, 1, 2), *part(2, 1, 1, 0, 1, 1, 3))
        self.do(*part(3, 0, 4, 0, 1, 1, 6), *box(4, 5, 0, 1, 1, 5), ("show", 0), ("drop", 0))
        self.assertEqual(self.names(), [4])
        self.do(("make", 0), ("make", 1), ("make", 2), ("make", 3))
        self.assertEqual(self.house.clients(), [0])

    def test_drop_of_a_part_leaves_its_top(self):
        self.do(*box(0, 0, 0, 5, 1, 1), *part(1, 0, 1, 0, 3, 1, 2), *part(2, 1, 1, 0, 1, 1, 3), ("show", 0))
        self.do(("drop", 1))
        self.assertEqual(self.names(), [0])
        self.do(("make", 1), ("make", 2), ("show", 0))
        self.assertEqual(self.names(), [0])

    def test_who_lost_its_parts_can_be_tied(self):
        self.do(("make", 0), ("make", 1), ("make", 2), ("tie", 1, 0), ("drop", 1), ("tie", 0, 2))
        self.assertEqual(self.house.clients(), [0])

    def test_a_name_made_again_is_no_part(self):
        self.do(*box(0, 2, 0, 2, 1, 1), *part(1, 0, 1, 0, 1, 1, 2), ("drop", 1), *box(1, 0, 0, 1, 1, 7))
        self.assertEqual(self.row(), "7.11..")
