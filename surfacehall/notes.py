"""Letters of clients as a text: a row for each letter."""

from surfacehall.errors import BadLetter, BadText, TooMany
from surfacehall.forms import MOST_CLIENTS, is_letter, is_within

FIGURES = "0123456789"


def check_books(books):
    """Refuse a sixth list of letters, then whatever is no letter."""
    if len(books) > MOST_CLIENTS:
        raise TooMany("there are letters of at most five clients")
    for letters in books:
        for letter in letters:
            if not is_letter(letter):
                raise BadLetter("there is no such letter")


def row_of(client, letter):
    """Tell the row of a client's letter."""
    return " ".join([str(word) for word in (client, *letter)])


def written(books):
    """Tell the text of the letters of clients 0, 1 and so on, a list for each client."""
    check_books(books)
    return "\n".join([row_of(client, letter) for client, letters in enumerate(books) for letter in letters])


def number_of(word):
    """Tell the number that a word is, or None if it is none."""
    figures = word.removeprefix("-")
    if len(figures) not in (1, 2) or not all([sign in FIGURES for sign in figures]):
        return None
    number = int(word)
    # A needless 0 or - is one that the number is not written with.
    if str(number) != word:
        return None
    return number


def read(text):
    """Tell the letters that a text has, a list for each client up to the last one that told some."""
    books = []
    # Without letters nothing is written: this one text has no row.
    if text == "":
        return books
    for line, row in enumerate(text.split("\n")):
        words = row.split(" ")
        client = number_of(words[0])
        letter = tuple(words[1:2] + [number_of(word) for word in words[2:]])
        # The list of the client of the row ahead is the last one.
        if not is_within(client, max(0, len(books) - 1), MOST_CLIENTS - 1) or not is_letter(letter):
            raise BadText(line)
        while len(books) <= client:
            books.append([])
        books[client].append(letter)
    return books
