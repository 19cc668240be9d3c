"""Promise 11: at_rest tells the screen that clients' letters come to, laid over one another."""

import copy
import unittest

from surfacehall.alone import at_rest
from tests.helpers import box, part, refused

# By this letter its client falls: there is no surface 9.
FALL = ("show", 9)
LOW, MIDDLE, HIGH = box(0, 0, 0, 3, 1, 1), box(0, 1, 0, 3, 1, 2), box(0, 2, 0, 3, 1, 3)


def rows(wide, high, *books):
    """Tell the screen at rest as texts, one for each row, with a point for each 0."""
    return ["".join(str(mark) for mark in row).replace("0", ".") for row in at_rest(wide, high, list(books))]


class Plain(unittest.TestCase):
    def test_no_list(self):
        self.assertEqual(at_rest(3, 2, []), [[0, 0, 0], [0, 0, 0]])

    def test_empty_lists(self):
        for many in range(6):
            self.assertEqual(at_rest(2, 1, [[] for _ in range(many)]), [[0, 0]])

    def test_one_client(self):
        letters = box(7, 1, 0, 2, 1, 5)
        self.assertEqual(at_rest(4, 2, [letters]), [[0, 5, 5, 0], [0, 0, 0, 0]])

    def test_the_least_screen(self):
        self.assertEqual(at_rest(1, 1, []), [[0]])
        self.assertEqual(at_rest(1, 1, [box(0, -3, -2, 12, 8, 9)]), [[9]])

    def test_the_greatest_screen(self):
        self.assertEqual(at_rest(12, 8, []), [[0] * 12] * 8)
        self.assertEqual(at_rest(12, 8, [box(0, 0, 0, 12, 8, 4)]), [[4] * 12] * 8)
        corner = at_rest(12, 8, [box(0, 11, 7, 1, 1, 4)])
        self.assertEqual(corner, [[0] * 12] * 7 + [[0] * 11 + [4]])

    def test_wide_is_not_high(self):
        self.assertEqual(rows(1, 8, box(0, 0, 7, 1, 1, 3)), ["."] * 7 + ["3"])
        self.assertEqual(rows(12, 1, box(0, 11, 0, 1, 1, 3)), ["." * 11 + "3"])

    def test_five_clients(self):
        books = [box(3, client, 0, 1, 1, client + 1) for client in range(5)]
        self.assertEqual(rows(6, 1, *books), ["12345."])

    def test_clients_have_names_of_their_own(self):
        self.assertEqual(rows(3, 1, box(1, 0, 0, 1, 1, 6), [], box(1, 2, 0, 1, 1, 7)), ["6.7"])

    def test_as_many_letters_as_a_client_may_tell(self):
        letters = box(0, 0, 0, 1, 1, 8)
        many = letters + [("paint", 0, 0, 0, 1, 1, 2)] * (249 - len(letters)) + [("show", 0)]
        self.assertEqual(len(many), 250)
        self.assertEqual(rows(5, 1, *[many[:4] + [("place", 0, k, 0)] + many[5:] for k in range(5)]), ["22222"])

    def test_more_letters_are_no_fault(self):
        letters = box(0, 0, 0, 1, 1, 8)
        self.assertEqual(rows(1, 1, letters + [("veil", 0)] * 300), ["8"])


class Over(unittest.TestCase):
    def test_by_client(self):
        self.assertEqual(rows(5, 1, LOW, MIDDLE, HIGH), ["12333"])
        self.assertEqual(rows(5, 1, HIGH, MIDDLE, LOW), ["11123"])

    def test_by_name(self):
        letters = box(8, 0, 0, 3, 1, 8) + box(2, 1, 0, 3, 1, 2)
        self.assertEqual(rows(5, 1, letters), ["8882."])

    def test_client_ahead_of_name(self):
        self.assertEqual(rows(4, 1, box(9, 0, 0, 3, 1, 1), box(0, 1, 0, 3, 1, 2)), ["1222"])

    def test_rank_ahead_of_client_and_name(self):
        self.assertEqual(rows(4, 1, box(0, 0, 0, 3, 1, 1, 5), box(9, 1, 0, 3, 1, 2, 4)), ["1112"])
        self.assertEqual(rows(4, 1, box(0, 0, 0, 3, 1, 1, 9) + box(9, 1, 0, 3, 1, 2)), ["1112"])

    def test_mark_0_is_seen_through(self):
        letters = box(0, 0, 0, 3, 1, 2)[:-1] + [("paint", 0, 1, 0, 1, 1, 0), ("show", 0)]
        self.assertEqual(rows(4, 1, box(0, 0, 0, 4, 1, 1), letters), ["2121"])

    def test_a_part_is_upon_its_top_and_below_the_next(self):
        letters = part(5, 1, 1, 0, 2, 1, 5)
        top = box(1, 0, 0, 2, 1, 1)
        letters = top[:-1] + letters + [("show", 1)]
        self.assertEqual(rows(4, 1, letters), ["155."])
        self.assertEqual(rows(4, 1, letters, box(0, 2, 0, 2, 1, 2)), ["1522"])

    def test_a_part_is_told_from_its_top_and_goes_beyond_it(self):
        letters = box(1, 2, 1, 1, 1, 1)[:-1] + part(0, 1, -1, 1, 1, 1, 2) + part(2, 0, 2, -2, 2, 1, 3) + [("show", 1)]
        self.assertEqual(rows(5, 3, letters), ["...33", "..1..", ".2..."])


class Shown(unittest.TestCase):
    def test_what_is_pending_is_not_seen(self):
        later = [("paint", 0, 0, 0, 1, 1, 9), ("place", 0, 2, 0), ("size", 0, 1, 1), ("rank", 0, 9), ("veil", 0)]
        self.assertEqual(rows(4, 1, box(0, 0, 0, 2, 1, 4) + later), ["44.."])
        self.assertEqual(rows(4, 1, box(0, 0, 0, 2, 1, 4)[:-1]), ["...."])
        self.assertEqual(rows(4, 1, box(0, 0, 0, 2, 1, 4)[:-1] + later[:4] + [("show", 0)]), ["..9."])

    def test_what_is_ready_alone_is_not_seen(self):
        letters = box(1, 0, 0, 1, 1, 1) + part(2, 1, 1, 0, 1, 1, 2)
        self.assertEqual(rows(3, 1, letters), ["1.."])
        self.assertEqual(rows(3, 1, letters + [("show", 1)]), ["12."])

    def test_a_part_of_a_part(self):
        letters = box(1, 0, 0, 1, 1, 1)[:-1] + part(2, 1, 1, 0, 1, 1, 2) + part(3, 2, 1, 0, 1, 1, 3)
        self.assertEqual(rows(4, 1, letters), ["...."])
        self.assertEqual(rows(4, 1, letters + [("show", 1)]), ["123."])
        self.assertEqual(rows(4, 1, letters + [("drop", 2), ("show", 1)]), ["1..."])

    def test_veils(self):
        letters = box(1, 0, 0, 1, 1, 1) + part(2, 1, 1, 0, 1, 1, 2) + [("show", 1)]
        self.assertEqual(rows(2, 1, letters + [("veil", 1)]), ["12"])
        self.assertEqual(rows(2, 1, letters + [("veil", 1), ("show", 1)]), [".."])
        self.assertEqual(rows(2, 1, letters + [("veil", 1), ("show", 1), ("unveil", 1), ("show", 1)]), ["12"])
        self.assertEqual(rows(2, 1, letters + [("veil", 2), ("show", 2)]), ["12"])
        self.assertEqual(rows(2, 1, letters + [("veil", 2), ("show", 2), ("show", 1)]), ["1."])

    def test_sizes(self):
        letters = box(0, 0, 0, 3, 2, 6)
        self.assertEqual(rows(4, 3, letters + [("size", 0, 1, 3), ("show", 0)]), ["6...", "6...", "...."])
        again = [("size", 0, 1, 1), ("size", 0, 3, 2), ("show", 0)]
        self.assertEqual(rows(4, 3, letters + again), ["6...", "....", "...."])

    def test_off_the_screen(self):
        self.assertEqual(rows(2, 2, box(0, -1, -1, 2, 2, 7)), ["7.", ".."])
        self.assertEqual(rows(2, 2, box(0, 1, 1, 12, 8, 7)), ["..", ".7"])
        for x, y in ((-20, 0), (0, -20), (20, 20), (2, 0), (0, 2), (-2, 0), (0, -2)):
            self.assertEqual(rows(2, 2, box(0, x, y, 2, 2, 7)), ["..", ".."], (x, y))

    def test_dropped_and_made_again(self):
        letters = box(0, 0, 0, 2, 1, 5)
        self.assertEqual(rows(2, 1, letters + [("drop", 0)]), [".."])
        self.assertEqual(rows(2, 1, letters + [("drop", 0), ("make", 0)]), [".."])
        self.assertEqual(rows(2, 1, letters + [("drop", 0)] + box(0, 1, 0, 1, 1, 3)), [".3"])

    def test_holds_are_nothing_to_the_screen(self):
        self.assertEqual(rows(2, 1, box(0, 0, 0, 2, 1, 5) + [("hold", 0), ("let",)]), ["55"])


class Falls(unittest.TestCase):
    def test_nothing_of_it_is_seen_and_the_others_stay(self):
        letters = [("paint", 0, 1, 0, 3, 1, 1), ("make", 0), ("drop", 5), ("tie", 0, 0), ("tie", 0, 5), FALL]
        for letter in letters:
            self.assertEqual(rows(5, 1, LOW, MIDDLE + [letter], HIGH), ["11333"], letter)
            self.assertEqual(rows(5, 1, LOW + [letter], MIDDLE, HIGH), [".2333"], letter)

    def test_all_fall(self):
        self.assertEqual(rows(2, 1, *[LOW + [FALL]] * 5), [".."])

    def test_ahead_of_what_it_would_show(self):
        self.assertEqual(rows(3, 1, [FALL] + LOW), ["..."])
        self.assertEqual(rows(3, 1, [("let",)] + LOW), ["111"])

    def test_who_fell_keeps_its_place_among_the_lists(self):
        self.assertEqual(rows(5, 1, [FALL], HIGH, [FALL], LOW), ["11133"])


class Handed(unittest.TestCase):
    def test_what_was_handed_in_is_as_it_was(self):
        books = [LOW + [FALL], list(MIDDLE), [], part(2, 1, 0, 0, 1, 1, 1)]
        before = copy.deepcopy(books)
        at_rest(4, 1, books)
        self.assertEqual(books, before)

    def test_what_was_told_may_be_changed(self):
        books = [list(LOW), list(MIDDLE)]
        told = at_rest(4, 2, books)
        told[0][0] = 9
        told[1].append(9)
        told.pop()
        self.assertEqual(at_rest(4, 2, books), [[1, 2, 2, 2], [0, 0, 0, 0]])

    def test_rows_are_lists_of_their_own(self):
        told = at_rest(2, 2, [])
        self.assertIsInstance(told, list)
        told[0][0] = 5
        self.assertEqual(told, [[5, 0], [0, 0]])

    def test_what_was_handed_in_may_be_changed(self):
        books = [list(LOW)]
        told = at_rest(4, 1, books)
        books[0].extend([("drop", 0), FALL])
        books.append([FALL])
        self.assertEqual(told, [[1, 1, 1, 0]])

    def test_one_list_for_several_clients(self):
        self.assertEqual(rows(4, 1, *[LOW] * 5), ["111."])


class Refusals(unittest.TestCase):
    def test_sizes(self):
        for wide, high in ((0, 1), (13, 1), (1, 0), (1, 9), (-1, 1), (1, -1), (0, 0), (9, 12), (True, 1), (1, True)):
            refused(self, "BadSize", at_rest, wide, high, [])
            refused(self, "BadSize", at_rest, wide, high, [LOW])

    def test_a_sixth_list(self):
        refused(self, "TooMany", at_rest, 1, 1, [[]] * 6)
        refused(self, "TooMany", at_rest, 1, 1, [LOW] * 6)
        refused(self, "TooMany", at_rest, 1, 1, [[]] * 7)

    def test_letters(self):
        for letter in (("shown", 0), ("show",), ("show", 0, 0), ("show", 10), ("show", -1), ("size", 0, 13, 1),
                       ("size", 0, 1, 0), ("paint", 0, 0, 0, 1, 1, 10), ("place", 0, -21, 0), ("let", 0), ("", 0), (),
                       (0, "show"), ("make", "0"), ("make", True)):
            for at in range(5):
                books = [list(LOW) for _ in range(5)]
                books[at].append(letter)
                refused(self, "BadLetter", at_rest, 4, 1, books)

    def test_letters_behind_a_fall(self):
        refused(self, "BadLetter", at_rest, 4, 1, [[FALL, ("show",)]])
        refused(self, "BadLetter", at_rest, 4, 1, [[FALL], LOW + [("show", 10)]])

    def test_which_comes_first(self):
        bad = [("show", 10)]
        refused(self, "BadSize", at_rest, 0, 1, [bad] * 6)
        refused(self, "BadSize", at_rest, 1, 9, [bad])
        refused(self, "BadSize", at_rest, 1, 9, [[]] * 6)
        refused(self, "TooMany", at_rest, 1, 1, [bad] * 6)
        refused(self, "TooMany", at_rest, 1, 1, [bad] + [[]] * 5)
        refused(self, "TooMany", at_rest, 1, 1, [[]] * 5 + [bad])
        refused(self, "BadLetter", at_rest, 1, 1, [[]] * 4 + [bad])

    def test_what_is_refused_changes_nothing(self):
        books = [list(LOW), [("show", 10)]]
        refused(self, "BadLetter", at_rest, 4, 1, books)
        self.assertEqual(books, [LOW, [("show", 10)]])
        self.assertEqual(at_rest(4, 1, books[:1]), [[1, 1, 1, 0]])
