"""Promise 13: letters of clients are written as rows, and read again."""

import copy
import random
import unittest

from surfacehall.errors import BadText
from surfacehall.forms import LETTERS
from surfacehall.notes import read, written
from tests.helpers import refused

LEAST = [(word, *[least for least, _ in bounds]) for word, bounds in LETTERS.items()]
GREATEST = [(word, *[greatest for _, greatest in bounds]) for word, bounds in LETTERS.items()]
LEAST_ROWS = [
    "make 0", "drop 0", "size 0 1 1", "paint 0 0 0 1 1 0", "place 0 -20 -20", "rank 0 0", "veil 0", "unveil 0",
    "tie 0 0", "show 0", "hold 0", "let",
]
GREATEST_ROWS = [
    "make 9", "drop 9", "size 9 12 8", "paint 9 11 7 12 8 9", "place 9 20 20", "rank 9 9", "veil 9", "unveil 9",
    "tie 9 9", "show 9", "hold 9", "let",
]


def some_books(chance):
    """Tell lists of letters, of which the last is not empty."""
    books = [
        [(word, *[chance.randint(*each) for each in LETTERS[word]]) for word in chance.choices(list(LETTERS), k=many)]
        for many in chance.choices((0, 0, 1, 2, 9), k=chance.randint(0, 4))
    ]
    return books + [[("let",)]]


class Written(unittest.TestCase):
    def test_all_words(self):
        self.assertEqual(written([LEAST]), "\n".join("0 " + row for row in LEAST_ROWS))
        self.assertEqual(written([[], GREATEST]), "\n".join("1 " + row for row in GREATEST_ROWS))

    def test_numbers_below_0(self):
        self.assertEqual(written([[("place", 3, -1, -12)]]), "0 place 3 -1 -12")

    def test_clients_that_told_none(self):
        self.assertEqual(written([[], [("let",)], [], [("show", 1), ("let",)], []]), "1 let\n3 show 1\n3 let")

    def test_five_clients(self):
        books = [[("make", client), ("show", client)] for client in range(5)]
        rows = [f"{client} {word} {client}" for client in range(5) for word in ("make", "show")]
        self.assertEqual(written(books), "\n".join(rows))

    def test_each_ones_letters_in_turn(self):
        letters = [("show", 9), ("make", 9), ("show", 0), ("make", 9)]
        self.assertEqual(written([letters]), "0 show 9\n0 make 9\n0 show 0\n0 make 9")

    def test_nothing_told(self):
        for many in range(6):
            self.assertEqual(written([[] for _ in range(many)]), "")

    def test_letters_that_somebody_falls_by_are_written(self):
        self.assertEqual(written([[("show", 1), ("tie", 2, 2)]]), "0 show 1\n0 tie 2 2")

    def test_what_was_handed_in_is_as_it_was(self):
        books = [list(LEAST), [], list(GREATEST), []]
        before = copy.deepcopy(books)
        self.assertEqual(written(books), written(books))
        self.assertEqual(books, before)

    def test_refusals(self):
        refused(self, "TooMany", written, [[]] * 6)
        refused(self, "TooMany", written, [[("let",)]] * 6)
        for letter in (("lets",), ("let", 0), ("make",), ("make", 10), ("make", -1), ("make", 0, 0), ("place", 0, 21, 0),
                       ("place", 0, 0, -21), ("paint", 0, 12, 0, 1, 1, 0), (), ("make", "0"), ("make", False), (0,)):
            for at in range(5):
                books = [[("let",)] for _ in range(5)]
                books[at].append(letter)
                refused(self, "BadLetter", written, books)

    def test_a_sixth_list_is_refused_ahead_of_letters(self):
        for at in range(6):
            books = [[("let",)] for _ in range(6)]
            books[at] = [("lets",)]
            refused(self, "TooMany", written, books)
            self.assertEqual(books[at], [("lets",)])


class Read(unittest.TestCase):
    def test_all_words(self):
        self.assertEqual(read("\n".join("0 " + row for row in LEAST_ROWS)), [LEAST])
        self.assertEqual(read("\n".join("0 " + row for row in GREATEST_ROWS)), [GREATEST])

    def test_up_to_the_last_client_that_told_some(self):
        self.assertEqual(read("0 let"), [[("let",)]])
        self.assertEqual(read("1 let\n3 show 1\n3 let"), [[], [("let",)], [], [("show", 1), ("let",)]])
        self.assertEqual(read("4 let"), [[], [], [], [], [("let",)]])

    def test_the_empty_text(self):
        self.assertEqual(read(""), [])
        told = read("")
        told.append([])
        self.assertEqual(read(""), [])

    def test_kinds_of_values(self):
        told = read("1 place 2 -3 4")
        self.assertEqual(told, [[], [("place", 2, -3, 4)]])
        self.assertIsInstance(told, list)
        for letters in told:
            self.assertIsInstance(letters, list)
        self.assertIsInstance(told[1][0], tuple)

    def test_what_was_told_may_be_changed(self):
        text = "2 let"
        told = read(text)
        told[0].append(("let",))
        self.assertEqual(told, [[("let",)], [], [("let",)]])
        told[2].clear()
        self.assertEqual(read(text), [[], [], [("let",)]])

    def test_what_was_written(self):
        chance = random.Random(13)
        for _ in range(200):
            books = some_books(chance)
            text = written(books)
            self.assertEqual(read(text), books)
            self.assertEqual(written(read(text)), text)
            behind = books + [[] for _ in range(5 - len(books))]
            self.assertEqual(read(written(behind)), books)

    def test_a_text_of_as_many_signs_as_there_may_be(self):
        text = "\n".join(["4 paint 9 11 7 12 8 9"] * 204)
        self.assertEqual(len(text), 4487)
        self.assertEqual(read(text), [[], [], [], [], [("paint", 9, 11, 7, 12, 8, 9)] * 204])

    def test_letters_that_somebody_falls_by_are_read(self):
        self.assertEqual(read("0 show 1\n0 tie 2 2"), [[("show", 1), ("tie", 2, 2)]])


class BadRows(unittest.TestCase):
    def no_row(self, row):
        """Check that the row is refused wherever it stands, also ahead of others that are."""
        self.bad_line(row, 0)
        self.bad_line(row + "\n" + "0 let", 0)
        self.bad_line("0 let\n0 let\n" + row, 2)
        self.bad_line("0 let\n" + row + "\n0 let\n0 lets\n" + row, 1)

    def bad_line(self, text, line):
        refused(self, "BadText", read, text)
        with self.assertRaises(BadText) as caught:
            read(text)
        self.assertEqual(caught.exception.line, line, text)
        self.assertIsInstance(caught.exception.line, int)

    def test_clients(self):
        for client in ("5", "9", "-1", "10", "04", "00", "-0", "+0", "a", "", "-", "0.", "0 0", "let", "000", "0_0"):
            self.no_row(client + " let")

    def test_a_client_below_the_one_ahead(self):
        self.bad_line("1 let\n0 let", 1)
        self.bad_line("0 let\n4 let\n4 show 1\n3 let\n4 let\n0 let", 3)
        self.assertEqual(read("0 let\n0 let\n2 let\n2 let"), [[("let",)] * 2, [], [("let",)] * 2])

    def test_words(self):
        for word in ("lets", "le", "LET", "Let", "-", "0", "1", ".let", "let,", "None", "let\\n"):
            self.no_row("0 " + word)
        self.no_row("0 shown 1")
        self.no_row("0 1 show")
        self.no_row("show 0 1")

    def test_too_few_and_too_many_words(self):
        for row in LEAST_ROWS + GREATEST_ROWS:
            self.no_row("0 " + row + " 1")
            self.no_row(row)
            if row != "let":
                self.no_row("0 " + " ".join(row.split(" ")[:-1]))
        self.no_row("0")

    def test_numbers_out_of_their_range(self):
        for word, bounds in LETTERS.items():
            for at, (least, greatest) in enumerate(bounds):
                for number in (least - 1, greatest + 1, 99, -99):
                    numbers = [low for low, _ in bounds]
                    numbers[at] = number
                    self.no_row(" ".join(["0", word, *[str(each) for each in numbers]]))

    def test_numbers_that_are_not_written_so(self):
        for number in ("00", "01", "001", "010", "-0", "-00", "-01", "--1", "+1", "-", "", "1-", "1.", "1.0", "1_0", "_1",
                       "0x1", "a", "1e0", "100", "-100", "1000", "'1'", "(1)", "1,", "O"):
            self.no_row("0 place 1 " + number + " 1")
            self.no_row("0 place 1 1 " + number)
            self.no_row("0 show " + number)

    def test_needless_0_and_minus_in_every_number(self):
        for number, given in (("05", 5), ("00", 0), ("-0", 0), ("-03", -3), ("007", 7), ("-010", -10)):
            self.no_row("0 place 5 -3 " + number)
            self.assertEqual(read("0 place 5 -3 " + str(given)), [[("place", 5, -3, given)]])

    def test_empty_words(self):
        for row in ("0  let", "0 let ", " 0 let", "0 show  1", "0 show 1 ", " 0 show 1", "0 show 1  ", "0 ", " ", "  ",
                    " let", "0  "):
            self.no_row(row)

    def test_empty_rows(self):
        self.bad_line("\n", 0)
        self.bad_line("\n\n", 0)
        self.bad_line("\n0 let", 0)
        self.bad_line("0 let\n", 1)
        self.bad_line("0 let\n\n0 let", 1)
        self.bad_line("0 let\n1 let\n\n", 2)

    def test_the_first_of_several(self):
        self.bad_line("0 let\n1 let\n1 lets\n0 let\n9 let\n", 2)
        self.bad_line("2 let\n0 let\n0 lets", 1)
        self.bad_line("0 let\n1 show 10\n0 let", 1)

    def test_a_far_line(self):
        self.bad_line("\n".join(["0 let"] * 400 + ["0 let "] + ["0 let"] * 300), 400)

    def test_a_refused_row_changes_nothing(self):
        self.bad_line("1 let\n1 lets", 1)
        self.assertEqual(read("0 let"), [[("let",)]])
