"""The rows that a desk is told: words parted by single blanks."""

from rimhouse.books import SIZES
from rimhouse.errors import NoRow
from rimhouse.texts import read_house, read_number

# What stands behind the first word of each row: a number, a house, or a word for sizes.
FORMS = {
    "house": ("HOUSE",),
    "drop": ("K",),
    "alter": ("K", "HOUSE"),
    "sizes": ("WORD",),
    "back": (),
    "share": ("K",),
    "grow": ("K",),
    "others": ("K",),
    "alone": ("K",),
    "scale": ("K",),
    "rim": (),
    "levels": (),
    "order": (),
    "book": (),
}


def read_thing(form, text):
    """What stands in a row in this form, None where it is not so written."""
    if form == "K":
        return read_number(text)
    if form == "HOUSE":
        return read_house(text)
    return text if text in SIZES else None


def read_row(row):
    """The first word of a row, and the list of the things behind it."""
    words = row.split(" ")
    word = words[0]
    if word not in FORMS or len(words) - 1 != len(FORMS[word]):
        raise NoRow("this is none of the rows")
    things = [read_thing(form, text) for form, text in zip(FORMS[word], words[1:])]
    if None in things:
        raise NoRow("what stands behind the first word is not so written")
    return (word, things)
