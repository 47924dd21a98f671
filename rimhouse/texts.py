"""How numbers, houses, books and fractions are written, and how they are read."""

from rimhouse.books import is_any_house, is_book
from rimhouse.errors import NoText

FIGURES = "0123456789"
MOST_FIGURES = 10


def numbers_text(numbers):
    """Numbers with commas between."""
    return ",".join([str(number) for number in numbers])


def house_text(house):
    """A house as it is written."""
    takes, gives = house
    return f"{numbers_text(takes)}>{numbers_text(gives)}"


def book_text(book):
    """A book as it is written, a row for each house."""
    return "\n".join([house_text(house) for house in book])


def fraction_text(one):
    """A fraction as it is written."""
    top, bottom = one
    return f"{top}" if bottom == 1 else f"{top}/{bottom}"


def read_number(text):
    """The number that a text is, None where it is not so written of any."""
    # Each sign is asked by itself, since Python's own reading lets blanks, signs and other figures by.
    if not 1 <= len(text) <= MOST_FIGURES or any([sign not in FIGURES for sign in text]):
        return None
    if text[0] == "0" and text != "0":
        return None
    return int(text)


def read_amounts(text):
    """The tuple of the numbers between commas, None where it is not so written of any."""
    amounts = [read_number(word) for word in text.split(",")]
    return None if None in amounts else tuple(amounts)


def read_house(text):
    """The house that a text is, None where it is not so written of any."""
    sides = [read_amounts(side) for side in text.split(">")]
    if len(sides) != 2 or None in sides:
        return None
    house = tuple(sides)
    return house if is_any_house(house) else None


def read_book(text):
    """The book that a text is."""
    book = [read_house(row) for row in text.split("\n")]
    if None in book or not is_book(book):
        raise NoText("the text is not so written of any book")
    return book
