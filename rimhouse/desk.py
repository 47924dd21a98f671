"""A desk that is told rows, and answers each of them by a text."""

from rimhouse.alone import share_alone
from rimhouse.deeds import with_another, with_one_more, without
from rimhouse.errors import NoBook, NothingLeft
from rimhouse.levels import levels
from rimhouse.others import share_of_others
from rimhouse.rims import rim_of
from rimhouse.rows import read_row
from rimhouse.shares import growth, share
from rimhouse.standing import scale, standing
from rimhouse.texts import book_text, fraction_text, numbers_text, read_book

# Asks: of the book, the sizes and the things in a row they tell the answer.


def tell_share(book, sizes, things):
    """share K"""
    return fraction_text(share(book, things[0], sizes))


def tell_growth(book, sizes, things):
    """grow K"""
    return fraction_text(growth(book, things[0], sizes))


def tell_others(book, sizes, things):
    """others K"""
    one = share_of_others(book, things[0], sizes)
    return "none" if one is None else fraction_text(one)


def tell_alone(book, sizes, things):
    """alone K"""
    one, number = share_alone(book, things[0])
    return f"{fraction_text(one)} {number}"


def tell_scale(book, sizes, things):
    """scale K"""
    return scale(book, things[0])


def tell_rim(book, sizes, things):
    """rim"""
    return numbers_text(rim_of(book, sizes))


def tell_levels(book, sizes, things):
    """levels"""
    return " ".join([numbers_text(level) for level in levels(book, sizes)])


def tell_order(book, sizes, things):
    """order"""
    return numbers_text(standing(book, sizes))


def tell_book(book, sizes, things):
    """book"""
    return book_text(book)


# Deeds: of the same they tell a tuple of the answer, the book and the sizes behind them.


def put_house(book, sizes, things):
    """house HOUSE"""
    takes, gives = book[0]
    return (str(len(book)), with_one_more(book, things[0], len(takes), len(gives)), sizes)


def drop_house(book, sizes, things):
    """drop K"""
    left = without(book, things[0])
    if not left:
        raise NoBook("the last house that is left can't be dropped")
    return ("ok", left, sizes)


def alter_house(book, sizes, things):
    """alter K HOUSE"""
    takes, gives = book[0]
    return ("ok", with_another(book, things[0], things[1], len(takes), len(gives)), sizes)


def set_sizes(book, sizes, things):
    """sizes WORD"""
    return ("ok", book, things[0])


ASKS = {
    "share": tell_share,
    "grow": tell_growth,
    "others": tell_others,
    "alone": tell_alone,
    "scale": tell_scale,
    "rim": tell_rim,
    "levels": tell_levels,
    "order": tell_order,
    "book": tell_book,
}
DEEDS = {"house": put_house, "drop": drop_house, "alter": alter_house, "sizes": set_sizes}


class Desk:
    """A book and sizes that rows ask and change."""

    def __init__(self, text):
        self.book = read_book(text)
        self.sizes = "any"
        self.past = []

    def say(self, row):
        """The answer to a row."""
        word, things = read_row(row)
        if word in ASKS:
            ask = ASKS[word]
            return ask(self.book, self.sizes, things)
        if word in DEEDS:
            deed = DEEDS[word]
            answer, book, sizes = deed(self.book, self.sizes, things)
            self.past.append((self.book, self.sizes))
            self.book, self.sizes = book, sizes
            return answer
        return self.take_back()

    def take_back(self):
        """back"""
        if not self.past:
            raise NothingLeft("no row is left that could be taken back")
        self.book, self.sizes = self.past.pop()
        return "ok"
