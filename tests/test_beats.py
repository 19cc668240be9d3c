"""Promise 7: beats, the screen, and what clients hear at a beat."""

import unittest

from tests.helpers import box, do, house_of, news, part


class Beats(unittest.TestCase):
    def test_it_tells_the_cells_by_y_then_x(self):
        house = house_of(1, 4, 3)
        do(house, 0, *box(0, 1, 0, 2, 3, 4))
        self.assertEqual(house.beat(), [(1, 0, 4), (2, 0, 4), (1, 1, 4), (2, 1, 4), (1, 2, 4), (2, 2, 4)])

    def test_it_tells_just_those_that_changed(self):
        house = house_of(1, 4, 2)
        do(house, 0, *box(0, 0, 0, 2, 2, 4))
        house.beat()
        do(house, 0, ("paint", 0, 1, 0, 1, 1, 6), ("paint", 0, 0, 1, 1, 1, 4), ("show", 0))
        self.assertEqual(house.beat(), [(1, 0, 6)])
        do(house, 0, ("place", 0, 1, 0), ("show", 0))
        self.assertEqual(house.beat(), [(0, 0, 0), (1, 0, 4), (2, 0, 6), (0, 1, 0), (2, 1, 4)])

    def test_the_same_mark_of_another_surface_is_no_change(self):
        house = house_of(2, 4, 1)
        do(house, 0, *box(0, 0, 0, 2, 1, 4))
        house.beat()
        do(house, 1, *box(0, 0, 0, 3, 1, 4))
        self.assertEqual(house.beat(), [(2, 0, 4)])

    def test_there_and_back_between_two_beats_is_no_change(self):
        house = house_of(1, 4, 1)
        do(house, 0, *box(0, 0, 0, 2, 1, 4))
        house.beat()
        do(house, 0, ("veil", 0), ("show", 0), ("unveil", 0), ("show", 0))
        self.assertEqual(house.beat(), [])

    def test_a_beat_with_nothing_between(self):
        house = house_of(1, 4, 1)
        self.assertEqual(house.beat(), [])
        do(house, 0, *box(0, 0, 0, 2, 1, 4))
        house.beat()
        heard = house.heard(0)
        screen = house.screen()
        self.assertEqual(house.beat(), [])
        self.assertEqual(house.screen(), screen)
        self.assertEqual(house.heard(0), heard)

    def test_the_screen_is_as_painted_last(self):
        house = house_of(1, 2, 2)
        do(house, 0, *box(0, 0, 0, 2, 1, 4))
        self.assertEqual(house.screen(), [[0, 0], [0, 0]])
        house.beat()
        self.assertEqual(house.screen(), [[4, 4], [0, 0]])
        do(house, 0, ("drop", 0))
        self.assertEqual(house.screen(), [[4, 4], [0, 0]])
        house.beat()
        self.assertEqual(house.screen(), [[0, 0], [0, 0]])

    def test_all_cells_of_the_largest_screen(self):
        house = house_of(1, 12, 8)
        do(house, 0, *box(0, 0, 0, 12, 8, 9))
        self.assertEqual(house.beat(), [(x, y, 9) for y in range(8) for x in range(12)])


class Shown(unittest.TestCase):
    def test_by_names_rising_each_once(self):
        house = house_of(2)
        do(house, 0, *box(7, 0, 0, 1, 1, 1, rank=1), *box(2, 0, 0, 1, 1, 1, rank=5), *box(5, 0, 0, 1, 1, 1))
        do(house, 0, ("show", 2))
        do(house, 1, *box(9, 0, 0, 1, 1, 1), ("make", 0))
        self.assertEqual(house.heard(0), [])
        house.beat()
        self.assertEqual(house.heard(0), [("shown", 2), ("shown", 5), ("shown", 7)])
        self.assertEqual(house.heard(1), [("shown", 9)])

    def test_since_the_beat_ahead_alone(self):
        house = house_of(1)
        do(house, 0, *box(0, 0, 0, 1, 1, 1), *box(1, 0, 0, 1, 1, 1))
        house.beat()
        do(house, 0, ("show", 1), ("paint", 0, 0, 0, 1, 1, 2))
        house.beat()
        self.assertEqual(news(house, 0, 2), [("shown", 1)])
        house.beat()
        self.assertEqual(news(house, 0, 3), [])

    def test_a_veiled_one_was_shown_too(self):
        house = house_of(1)
        do(house, 0, ("make", 0), ("veil", 0), ("show", 0))
        house.beat()
        self.assertEqual(house.heard(0), [("shown", 0)])

    def test_one_that_is_not_there_any_more(self):
        house = house_of(1)
        do(house, 0, *box(0, 0, 0, 1, 1, 1), *box(1, 0, 0, 1, 1, 1), ("drop", 0))
        house.beat()
        self.assertEqual(house.heard(0), [("shown", 1)])

    def test_one_made_again_was_not_shown(self):
        house = house_of(1)
        do(house, 0, *box(0, 0, 0, 1, 1, 1), ("drop", 0), ("make", 0))
        house.beat()
        self.assertEqual(house.heard(0), [])

    def test_one_made_ready_was_not_shown(self):
        house = house_of(1)
        do(house, 0, ("make", 5), *part(3, 5, 0, 0, 1, 1, 2), *part(4, 3, 0, 0, 1, 1, 2))
        house.beat()
        self.assertEqual(house.heard(0), [])
        do(house, 0, ("show", 5))
        house.beat()
        self.assertEqual(house.heard(0), [("shown", 3), ("shown", 4), ("shown", 5)])

    def test_a_part_that_was_not_ready_is_not_shown_with_its_top(self):
        house = house_of(1)
        do(house, 0, *box(5, 0, 0, 1, 1, 1), ("make", 3), ("tie", 3, 5), ("show", 5))
        house.beat()
        self.assertEqual(house.heard(0), [("shown", 5)])

    def test_what_was_shown_is_ready_no_more(self):
        house = house_of(1)
        do(house, 0, *box(5, 0, 0, 1, 1, 1), *part(3, 5, 0, 0, 1, 1, 2), ("show", 5))
        house.beat()
        do(house, 0, ("show", 5))
        house.beat()
        self.assertEqual(news(house, 0, 2), [("shown", 5)])
