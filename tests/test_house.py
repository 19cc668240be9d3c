"""Promises 2 and 3: a house, its clients, and their rows."""

import unittest

from surfacehall.house import House
from tests.helpers import box, do, house_of, refused, state


class Sizes(unittest.TestCase):
    def test_the_least_and_the_greatest_screen(self):
        for wide, high in ((1, 1), (12, 8), (1, 8), (12, 1), (5, 3)):
            rows = House(wide, high).screen()
            self.assertEqual(rows, [[0] * wide for _ in range(high)])

    def test_others_are_refused(self):
        for wide, high in ((0, 1), (1, 0), (13, 8), (12, 9), (-1, 4), (4, -1), (100, 100)):
            refused(self, "BadSize", House, wide, high)

    def test_true_is_no_number(self):
        refused(self, "BadSize", House, True, 4)
        refused(self, "BadSize", House, 4, True)

    def test_x_is_from_the_left_and_y_from_the_top(self):
        house = house_of(1, 3, 2)
        do(house, 0, *box(0, 2, 0, 1, 1, 7))
        house.beat()
        self.assertEqual(house.screen(), [[0, 0, 7], [0, 0, 0]])


class Clients(unittest.TestCase):
    def test_join_tells_numbers_from_0_on(self):
        house = House(4, 4)
        self.assertEqual(house.clients(), [])
        self.assertEqual([house.join() for _ in range(5)], [0, 1, 2, 3, 4])
        self.assertEqual(house.clients(), [0, 1, 2, 3, 4])

    def test_there_is_no_sixth(self):
        house = house_of(5)
        refused(self, "TooMany", house.join)
        self.assertEqual(house.clients(), [0, 1, 2, 3, 4])

    def test_fallen_ones_count_too(self):
        house = house_of(4)
        house.fall(1)
        house.fall(3)
        self.assertEqual(house.clients(), [0, 2])
        self.assertEqual(house.join(), 4)
        self.assertEqual(house.clients(), [0, 2, 4])
        refused(self, "TooMany", house.join)

    def test_a_client_that_there_isnt(self):
        house = house_of(2)
        for client in (-1, -2, 2, 5, 99):
            for call in (house.take, house.letters, house.fall, house.heard):
                refused(self, "NoClient", call, client)
            refused(self, "NoClient", house.tell, client, ("make", 0))
        self.assertEqual(house.clients(), [0, 1])

    def test_nobody_joined(self):
        refused(self, "NoClient", House(4, 4).heard, 0)

    def test_a_client_that_fell_is_refused_but_by_heard(self):
        house = house_of(2)
        do(house, 0, *box(0, 0, 0, 1, 1, 1))
        house.beat()
        house.fall(0)
        for call in (house.take, house.letters, house.fall):
            refused(self, "NoClient", call, 0)
        refused(self, "NoClient", house.tell, 0, ("make", 0))
        self.assertEqual(house.heard(0), [("shown", 0)])
        self.assertEqual(house.clients(), [1])

    def test_a_client_is_refused_ahead_of_a_letter(self):
        house = house_of(1)
        refused(self, "NoClient", house.tell, 1, ("nothing",))
        house.fall(0)
        refused(self, "NoClient", house.tell, 0, ("nothing",))


class Rows(unittest.TestCase):
    def test_tell_puts_letters_at_the_end_and_does_nothing_else(self):
        house = house_of(2)
        self.assertEqual(house.letters(0), 0)
        for letter in box(3, 1, 1, 2, 2, 4):
            self.assertIsNone(house.tell(0, letter))
        self.assertEqual((house.letters(0), house.letters(1)), (6, 0))
        self.assertEqual(house.standing(), [])

    def test_take_does_the_first(self):
        house = house_of(2)
        for letter in (("make", 3), ("show", 3), ("veil", 3), ("show", 3)):
            house.tell(0, letter)
        seen = []
        while house.take(0) is True:
            seen.append((house.letters(0), len(house.standing())))
        self.assertEqual(seen, [(3, 0), (2, 1), (1, 1), (0, 0)])
        self.assertIs(house.take(0), False)
        self.assertEqual(house.clients(), [0, 1])

    def test_take_takes_of_that_client_only(self):
        house = house_of(2)
        house.tell(0, ("make", 0))
        house.tell(1, ("make", 0))
        self.assertIs(house.take(1), True)
        self.assertIs(house.take(1), False)
        self.assertEqual((house.letters(0), house.letters(1)), (1, 0))

    def test_take_tells_true_of_a_letter_by_which_the_client_falls(self):
        house = house_of(1)
        house.tell(0, ("drop", 0))
        self.assertIs(house.take(0), True)
        self.assertEqual(house.clients(), [])

    def test_rest_takes_all_of_each(self):
        house = house_of(3)
        for client in (2, 0):
            for letter in box(client, client, 0, 1, 1, 5):
                house.tell(client, letter)
        self.assertIsNone(house.rest())
        self.assertEqual([house.letters(client) for client in range(3)], [0, 0, 0])
        self.assertEqual(house.standing(), [(0, 0, 0, 0, 1, 1), (2, 2, 2, 0, 1, 1)])

    def test_rest_with_nothing_to_take(self):
        house = house_of(2)
        before = state(house)
        house.rest()
        self.assertEqual(state(house), before)

    def test_rest_goes_on_behind_a_client_that_falls(self):
        house = house_of(3)
        for letter in (("make", 0), ("make", 0), ("make", 1)):
            house.tell(0, letter)
        for letter in box(4, 1, 1, 2, 2, 3):
            house.tell(1, letter)
        house.rest()
        self.assertEqual(house.clients(), [1, 2])
        self.assertEqual(house.standing(), [(1, 4, 1, 1, 2, 2)])

    def test_letters_beyond_four_hundred_are_not_refused(self):
        house = house_of(1)
        for _ in range(405):
            house.tell(0, ("let",))
        self.assertEqual(house.letters(0), 405)
        house.rest()
        self.assertEqual(house.letters(0), 0)

    def test_fall_empties_the_row(self):
        house = house_of(2)
        for letter in box(0, 0, 0, 1, 1, 1):
            house.tell(0, letter)
        self.assertIsNone(house.fall(0))
        house.rest()
        self.assertEqual(house.standing(), [])
        self.assertEqual(house.clients(), [1])


# Each word's numbers: one that is well formed, then the least and the greatest of each.
FORMS = {
    "make": ((3,), ((0, 9),)),
    "drop": ((3,), ((0, 9),)),
    "size": ((3, 2, 2), ((0, 9), (1, 12), (1, 8))),
    "paint": ((3, 0, 0, 1, 1, 4), ((0, 9), (0, 11), (0, 7), (1, 12), (1, 8), (0, 9))),
    "place": ((3, 1, 1), ((0, 9), (-20, 20), (-20, 20))),
    "rank": ((3, 5), ((0, 9), (0, 9))),
    "veil": ((3,), ((0, 9),)),
    "unveil": ((3,), ((0, 9),)),
    "tie": ((3, 4), ((0, 9), (0, 9))),
    "show": ((3,), ((0, 9),)),
    "hold": ((3,), ((0, 9),)),
    "let": ((), ()),
}


class BadLetters(unittest.TestCase):
    def check_refused(self, letter):
        house = house_of(1)
        before = state(house)
        refused(self, "BadLetter", house.tell, 0, letter)
        self.assertEqual(state(house), before)

    def check_taken_in(self, letter):
        house = house_of(1)
        house.tell(0, letter)
        self.assertEqual(house.letters(0), 1)

    def with_number(self, word, at, number):
        numbers = list(FORMS[word][0])
        numbers[at] = number
        return (word, *numbers)

    def test_the_least_and_the_greatest_of_each_number(self):
        for word, (_, bounds) in FORMS.items():
            for at, ends in enumerate(bounds):
                for number in ends:
                    self.check_taken_in(self.with_number(word, at, number))

    def test_one_beyond(self):
        for word, (_, bounds) in FORMS.items():
            for at, (least, greatest) in enumerate(bounds):
                for number in (least - 1, greatest + 1, 1000, -1000):
                    self.check_refused(self.with_number(word, at, number))

    def test_texts_and_truths_for_numbers(self):
        for word, (_, bounds) in FORMS.items():
            for at in range(len(bounds)):
                for other in ("1", "", "make", True):
                    self.check_refused(self.with_number(word, at, other))

    def test_too_few_and_too_many_numbers(self):
        for word, (numbers, _) in FORMS.items():
            self.check_refused((word, *numbers, 1))
            if numbers:
                self.check_refused((word, *numbers[:-1]))

    def test_words_that_there_arent(self):
        for letter in ((), ("",), ("Make", 0), ("make ", 0), ("shown", 0), ("down", 0, 0, 0), (0,), (0, 0), ("0", 0)):
            self.check_refused(letter)

    def test_letters_are_tuples(self):
        self.check_refused(["make", 0])
        self.check_refused("let")

    def test_each_word_as_it_stands(self):
        for word, (numbers, _) in FORMS.items():
            self.check_taken_in((word, *numbers))
