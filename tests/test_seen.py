"""Promise 6: which surfaces are seen, and how they are laid."""

import unittest

from tests.helpers import box, do, house_of, looks, part


class Laying(unittest.TestCase):
    def order(self, house):
        return [row[:2] for row in house.standing()]

    def test_by_rank_then_client_then_name(self):
        house = house_of(3, 4, 2)
        do(house, 2, *box(0, 0, 0, 1, 1, 1), *box(5, 0, 0, 1, 1, 2, rank=1))
        do(house, 1, *box(7, 0, 0, 1, 1, 3), *box(6, 0, 0, 1, 1, 4), *box(1, 0, 0, 1, 1, 5, rank=9))
        do(house, 0, *box(9, 0, 0, 1, 1, 6), *box(2, 0, 0, 1, 1, 7, rank=1))
        self.assertEqual(self.order(house), [(0, 9), (1, 6), (1, 7), (2, 0), (0, 2), (2, 5), (1, 1)])
        self.assertEqual(house.beat(), [(0, 0, 5)])

    def test_who_is_uppermost_of_a_rank(self):
        house = house_of(2, 4, 2)
        do(house, 1, *box(0, 0, 0, 1, 1, 1))
        do(house, 0, *box(9, 0, 0, 1, 1, 2), *box(8, 1, 0, 1, 1, 3), *box(3, 1, 0, 1, 1, 4))
        self.assertEqual(looks(house), "13..\n....")

    def test_parts_upon_their_surface_ahead_of_the_next(self):
        house = house_of(2, 4, 2)
        do(house, 0, *box(5, 0, 0, 4, 2, 1))
        do(house, 0, *part(4, 5, 0, 0, 1, 1, 2, rank=3), *part(6, 5, 0, 0, 1, 1, 3, rank=1))
        do(house, 0, *part(8, 5, 0, 0, 1, 1, 4, rank=1), *part(0, 6, 0, 0, 1, 1, 5, rank=9))
        do(house, 0, *part(9, 4, 0, 0, 1, 1, 6), ("show", 5))
        do(house, 1, *box(0, 3, 1, 1, 1, 9))
        self.assertEqual(self.order(house), [(0, 5), (0, 6), (0, 0), (0, 8), (0, 4), (0, 9), (1, 0)])
        self.assertEqual(looks(house), "6111\n1119")

    def test_a_parts_rank_counts_within_its_top_alone(self):
        house = house_of(1, 4, 2)
        do(house, 0, *box(0, 0, 0, 2, 1, 1), *part(1, 0, 0, 0, 1, 1, 2, rank=9), ("show", 0))
        do(house, 0, *box(2, 0, 0, 1, 1, 3))
        self.assertEqual(self.order(house), [(0, 0), (0, 1), (0, 2)])
        self.assertEqual(looks(house), "31..\n....")

    def test_shown_ranks_count_not_pending_ones(self):
        house = house_of(1, 4, 2)
        do(house, 0, *box(0, 0, 0, 2, 1, 1), *box(1, 0, 0, 2, 1, 2), ("rank", 0, 5))
        self.assertEqual(self.order(house), [(0, 0), (0, 1)])

    def test_mark_0_lets_the_next_be_seen(self):
        house = house_of(1, 4, 1)
        do(house, 0, *box(0, 0, 0, 3, 1, 1), *box(1, 0, 0, 3, 1, 2), *box(2, 0, 0, 4, 1, 3))
        do(house, 0, ("paint", 1, 0, 0, 2, 1, 0), ("show", 1))
        do(house, 0, ("paint", 2, 0, 0, 1, 1, 0), ("paint", 2, 2, 0, 2, 1, 0), ("show", 2))
        self.assertEqual(looks(house), "132.")


class Veils(unittest.TestCase):
    def setUp(self):
        self.house = house_of(1, 6, 1)
        do(self.house, 0, *box(0, 0, 0, 5, 1, 1), *part(1, 0, 1, 0, 3, 1, 2), *part(2, 1, 1, 0, 1, 1, 3), ("show", 0))

    def test_a_veiled_top_hides_all_its_parts(self):
        do(self.house, 0, ("veil", 0), ("show", 0))
        self.assertEqual(self.house.standing(), [])
        self.assertEqual(looks(self.house), "......")
        do(self.house, 0, ("unveil", 0), ("show", 0))
        self.assertEqual(looks(self.house), "12321.")

    def test_a_veiled_part_hides_its_parts_alone(self):
        do(self.house, 0, ("veil", 1), ("show", 1), ("show", 0))
        self.assertEqual(self.house.standing(), [(0, 0, 0, 0, 5, 1)])
        self.assertEqual(looks(self.house), "11111.")

    def test_a_veil_that_is_ready_alone_hides_nothing(self):
        do(self.house, 0, ("veil", 1), ("show", 1))
        self.assertEqual(looks(self.house), "12321.")

    def test_the_innermost_veiled(self):
        do(self.house, 0, ("veil", 2), ("show", 2), ("show", 0))
        self.assertEqual(looks(self.house), "12221.")

    def test_to_veil_twice_and_unveil_once(self):
        do(self.house, 0, ("veil", 0), ("veil", 0), ("unveil", 0), ("show", 0))
        self.assertEqual(looks(self.house), "12321.")


class Places(unittest.TestCase):
    def test_off_the_screen_on_every_side(self):
        for x, y, seen in (
            (-1, 0, "234\n678\n..."), (-2, 0, "34.\n78.\n..."), (-4, 0, "...\n...\n..."),
            (0, -1, "567\n...\n..."), (0, -2, "...\n...\n..."), (2, 0, "..1\n..5\n..."),
            (3, 0, "...\n...\n..."), (0, 2, "...\n...\n123"), (0, 3, "...\n...\n..."),
            (-3, -1, "8..\n...\n..."), (2, 2, "...\n...\n..1"), (-20, -20, "...\n...\n..."), (20, 20, "...\n...\n..."),
        ):
            house = house_of(1, 3, 3)
            do(house, 0, ("make", 0), ("size", 0, 4, 2), ("place", 0, x, y))
            for mark in range(8):
                do(house, 0, ("paint", 0, mark % 4, mark // 4, 1, 1, mark + 1))
            do(house, 0, ("show", 0))
            self.assertEqual(looks(house), seen, (x, y))
            self.assertEqual(house.standing(), [(0, 0, x, y, 4, 2)])

    def test_parts_are_told_from_their_tops(self):
        house = house_of(1, 6, 4)
        do(house, 0, *box(0, 2, 1, 1, 1, 1), *part(1, 0, -1, 2, 2, 1, 2), *part(2, 1, 4, -3, 1, 1, 3), ("show", 0))
        self.assertEqual(house.standing(), [(0, 0, 2, 1, 1, 1), (0, 1, 1, 3, 2, 1), (0, 2, 5, 0, 1, 1)])
        self.assertEqual(looks(house), ".....3\n..1...\n......\n.22...")

    def test_parts_follow_their_top(self):
        house = house_of(1, 6, 4)
        do(house, 0, *box(0, 2, 1, 1, 1, 1), *part(1, 0, 1, 0, 1, 1, 2), *part(2, 1, 1, 0, 1, 1, 3), ("show", 0))
        do(house, 0, ("place", 0, 0, 3), ("show", 0))
        self.assertEqual(looks(house), "......\n......\n......\n123...")
        do(house, 0, ("place", 1, 2, 0), ("show", 1), ("show", 0))
        self.assertEqual(looks(house), "......\n......\n......\n1.23..")

    def test_a_part_may_be_on_the_screen_while_its_top_is_off(self):
        house = house_of(1, 3, 1)
        do(house, 0, *box(0, -20, -20, 1, 1, 1), *part(1, 0, 20, 20, 1, 1, 2), *part(2, 1, 20, 20, 1, 1, 2))
        do(house, 0, ("show", 0))
        self.assertEqual(looks(house), "2..")
        self.assertEqual(house.standing()[2], (0, 2, 20, 20, 1, 1))

    def test_a_part_is_not_cut_at_its_top(self):
        house = house_of(1, 4, 1)
        do(house, 0, *box(0, 0, 0, 1, 1, 1), *part(1, 0, 0, 0, 4, 1, 2), ("show", 0))
        self.assertEqual(looks(house), "2222")


class Standing(unittest.TestCase):
    def test_it_does_not_wait_for_a_beat(self):
        house = house_of(1)
        do(house, 0, *box(0, 3, 4, 2, 1, 5))
        self.assertEqual(house.standing(), [(0, 0, 3, 4, 2, 1)])
        do(house, 0, ("place", 0, 1, 1), ("show", 0))
        self.assertEqual(house.standing(), [(0, 0, 1, 1, 2, 1)])

    def test_what_is_covered_or_off_the_screen_stands_too(self):
        house = house_of(1, 2, 2)
        do(house, 0, *box(0, 0, 0, 1, 1, 5), *box(1, 0, 0, 2, 2, 6), *box(2, 9, 9, 1, 1, 1), ("make", 3), ("show", 3))
        self.assertEqual([row[1] for row in house.standing()], [0, 1, 2, 3])
