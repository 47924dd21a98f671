"""The desk's rows, their answers and their refusals [15], and whose they are [2, 3]."""

import random
import re
import unittest
from fractions import Fraction

import judge
from judge import SIZES
from rimhouse.alone import share_alone
from rimhouse.books import is_book
from rimhouse.desk import Desk
from rimhouse.errors import NoBook, NoHouse, NoRow, NoText, NothingLeft, TooMany
from rimhouse.levels import levels
from rimhouse.others import share_of_others
from rimhouse.rims import rim_of
from rimhouse.shares import growth, share
from rimhouse.standing import scale, standing

LINE = "2>2\n4>6\n8>8"
# Each of these rows asks something, and is no deed.
ASKS = ("share 0", "grow 0", "others 0", "alone 0", "scale 0", "rim", "levels", "order", "book")
BAD_ROWS = (
    "", " ", "  ", "\n", "\t", "rim ", " rim", "rim  ", "rim 0", "rim any", "Rim", "RIM", "rims", "ri", "rim\n",
    "\nrim", "rim\t", "rim,", "rim rim", "book ", " book", "book 0", "book\n", "books", "levels 0", "levels ", "level",
    "order any", "order ", "order 0", "orders", "standing", "back 1", "back ", " back", "back back", "undo",
    "share", "share ", "share  0", "share 0 ", " share 0", "share 0 1", "share 0 any", "shares 0", "Share 0", "share\t0",
    "share,0", "share0", "grow", "grow 0 0", "growth 0", "others", "others 0 0", "other 0", "alone", "alone 0 1",
    "scale", "scale 0 any", "drop", "drop ", "drop 0 0", "drop 0 ", "drop  0", "drop 0,1", "sizes", "sizes ", "sizes all",
    "sizes Any", "sizes ANY", "sizes any ", "sizes  any", "sizes any any", "sizes 0", "sizes any,one", "sizes none",
    "size any", "sizes an", "sizes anyone", "house", "house ", "house  1>1", "house 1>1 ", "house 1>1 1>1", "house 0",
    "house 0 1>1", "houses 1>1", "House 1>1", "alter", "alter 0", "alter 0 ", "alter 1>1", "alter 1>1 0",
    "alter 0  1>1", "alter  0 1>1", "alter 0 1>1 ", "alter 0 1>1 1>1", "alter 0 0 1>1", "come 1>1", "go 0", "none", "ok",
    "0", "1>1", "share 0\nshare 1", "rim\nrim", "share 1>1", "merged 0", "judged", "moved 0", "~",
)
BAD_KS = ("00", "01", "007", "-1", "-0", "+1", "12345678901", "00000000000", "1" * 40, "a", "1.0", "1/2", "0x0", "1_0",
          "1,2", "\t0", "0\n", "\u0661", "\u00b2", "one")


def written(one):
    return str(Fraction(*one))


def commas(numbers):
    return ",".join(map(str, numbers))


def text_of(book):
    return "\n".join(">".join(map(commas, house)) for house in book)


class Plain:
    """A desk out of the document's words: what a row answers, or the error that it is refused with."""

    K = r"(0|[1-9][0-9]{0,9})"
    HOUSE = r"([0-9]+(?:,[0-9]+)*>[0-9]+(?:,[0-9]+)*)"

    def __init__(self, book):
        self.book, self.sizes, self.past = book, "any", []

    def turn_to(self, book, sizes, answer):
        self.past.append((self.book, self.sizes))
        self.book, self.sizes = book, sizes
        return answer

    def read_house(self, text):
        parts = [part.split(",") for part in text.split(">")]
        if any(str(int(word)) != word for part in parts for word in part):
            return None
        house = tuple(tuple(map(int, part)) for part in parts)
        return house if is_book([house]) else None

    def does_fit(self, house):
        return [len(side) for side in house] == [len(side) for side in self.book[0]]

    def answer(self, row):
        if row == "back":
            if not self.past:
                return NothingLeft
            self.book, self.sizes = self.past.pop()
            return "ok"
        if row in ("rim", "levels", "order", "book"):
            return self.of_all(row)
        match = re.fullmatch(r"sizes (any|one|less|more)", row, re.ASCII)
        if match:
            return self.turn_to(self.book, match[1], "ok")
        match = re.fullmatch("house " + self.HOUSE, row)
        if match:
            return self.house(self.read_house(match[1]))
        match = re.fullmatch("alter " + self.K + " " + self.HOUSE, row)
        if match:
            return self.alter(int(match[1]), self.read_house(match[2]))
        match = re.fullmatch("(share|grow|others|alone|scale|drop) " + self.K, row)
        if match:
            return self.of_one(match[1], int(match[2]))
        return NoRow

    def of_all(self, word):
        if word == "book":
            return text_of(self.book)
        if word == "rim":
            return commas(rim_of(self.book, self.sizes))
        if word == "order":
            return commas(standing(self.book, self.sizes))
        return " ".join(commas(level) for level in levels(self.book, self.sizes))

    def house(self, house):
        if house is None:
            return NoRow
        if not self.does_fit(house):
            return NoBook
        if len(self.book) == 16:
            return TooMany
        return self.turn_to(self.book + [house], self.sizes, str(len(self.book)))

    def alter(self, number, house):
        if house is None:
            return NoRow
        if number >= len(self.book):
            return NoHouse
        if not self.does_fit(house):
            return NoBook
        return self.turn_to([house if at == number else had for at, had in enumerate(self.book)], self.sizes, "ok")

    def of_one(self, word, number):
        if number >= len(self.book):
            return NoHouse
        if word == "drop":
            if len(self.book) == 1:
                return NoBook
            return self.turn_to([had for at, had in enumerate(self.book) if at != number], self.sizes, "ok")
        if word == "alone":
            one, other = share_alone(self.book, number)
            return f"{written(one)} {other}"
        if word == "scale":
            return scale(self.book, number)
        tell = {"share": share, "grow": growth, "others": share_of_others}[word]
        one = tell(self.book, number, self.sizes)
        return "none" if one is None else written(one)


class Desks(unittest.TestCase):
    def says(self, desk, *pairs):
        for row, answer in pairs:
            with self.subTest(row=row):
                self.assertEqual(desk.say(row), answer)

    def refuses(self, desk, error, *rows):
        """Each of the rows is refused, and changes nothing."""
        for row in rows:
            with self.subTest(row=row):
                ahead = [desk.say(one) for one in ("book", "rim", "order")]
                self.assertRaises(error, desk.say, row)
                self.assertEqual([desk.say(one) for one in ("book", "rim", "order")], ahead)


class Asked(Desks):
    def test_by_any(self):
        self.says(
            Desk(LINE),
            ("share 0", "2/3"), ("share 1", "1"), ("share 2", "2/3"),
            ("grow 0", "3/2"), ("grow 1", "1"), ("grow 2", "3/2"),
            ("others 0", "2/3"), ("others 1", "3/2"), ("others 2", "2/3"),
            ("rim", "1"), ("levels", "1 0,2"), ("order", "1,0,2"), ("book", LINE),
            ("alone 0", "1 0"), ("alone 1", "1 1"), ("alone 2", "1 2"),
            ("scale 0", "small"), ("scale 1", "just"), ("scale 2", "great"),
        )

    def test_by_other_sizes(self):
        desk = Desk(LINE)
        self.says(
            desk,
            ("sizes one", "ok"), ("share 0", "1"), ("grow 0", "1"), ("others 0", "2"), ("others 2", "none"),
            ("rim", "0,1,2"), ("levels", "0,1,2"), ("order", "2,0,1"), ("scale 0", "small"),
            ("sizes less", "ok"), ("share 0", "2/3"), ("others 2", "none"), ("rim", "1,2"), ("levels", "1,2 0"),
            ("order", "2,1,0"), ("scale 2", "great"),
            ("sizes more", "ok"), ("share 0", "1"), ("share 2", "2/3"), ("grow 2", "3/2"), ("rim", "0,1"),
            ("levels", "0,1 2"), ("order", "0,1,2"),
            ("sizes any", "ok"), ("rim", "1"), ("book", LINE),
        )

    def test_alone(self):
        self.says(Desk("6>3\n4>3\n2>3\n5>4\n2>3"), ("alone 0", "1/3 2"), ("alone 1", "1/2 2"), ("alone 4", "1 2"),
                  ("alone 3", "1 3"))

    def test_one_house(self):
        for row, answer in (("share 0", "1"), ("grow 0", "1"), ("others 0", "none"), ("rim", "0"), ("levels", "0"),
                            ("order", "0"), ("alone 0", "1 0"), ("scale 0", "just"), ("book", "3,40>5,0")):
            desk = Desk("3,40>5,0")
            for sizes in SIZES:
                desk.say(f"sizes {sizes}")
                self.says(desk, (row, answer))

    def test_sixteen_levels(self):
        text = "\n".join(f"{number + 1}>1" for number in range(16))
        self.says(Desk(text), ("levels", " ".join(map(str, range(16)))), ("order", commas(range(16))), ("rim", "0"),
                  ("share 15", "1/16"), ("grow 15", "16"), ("others 0", "2"), ("alone 15", "1/16 0"))

    def test_a_text_that_is_none_of_a_book(self):
        for text in ("", "\n", "1>1\n", "1", "0>1", "1>0", "1>1\n1,1>1", "1 > 1", "01>1", "\n".join(["1>1"] * 17)):
            self.assertRaises(NoText, Desk, text)


class Deeds(Desks):
    def test_a_house_more(self):
        desk = Desk("2>2")
        self.says(desk, ("house 4>6", "1"), ("book", "2>2\n4>6"), ("share 0", "2/3"), ("house 8>8", "2"),
                  ("book", LINE), ("house 8>8", "3"), ("rim", "1"))

    def test_drop(self):
        desk = Desk(LINE)
        self.says(desk, ("drop 1", "ok"), ("book", "2>2\n8>8"), ("share 1", "1"), ("drop 0", "ok"), ("book", "8>8"))
        self.refuses(desk, NoBook, "drop 0")
        self.refuses(desk, NoHouse, "drop 1", "drop 9999999999")

    def test_alter(self):
        desk = Desk(LINE)
        self.says(desk, ("alter 2 8>16", "ok"), ("book", "2>2\n4>6\n8>16"), ("rim", "2"), ("share 1", "3/4"),
                  ("alter 0 1>2", "ok"), ("rim", "0,2"), ("alter 1 4>6", "ok"), ("book", "1>2\n4>6\n8>16"))

    def test_back(self):
        desk = Desk(LINE)
        self.says(
            desk,
            ("house 1>9", "3"), ("sizes less", "ok"), ("drop 0", "ok"), ("alter 0 5>5", "ok"),
            ("book", "5>5\n8>8\n1>9"), ("back", "ok"), ("book", "4>6\n8>8\n1>9"), ("back", "ok"),
            ("book", "2>2\n4>6\n8>8\n1>9"), ("drop 3", "ok"), ("rim", "1,2"), ("back", "ok"), ("rim", "3"),
            ("back", "ok"), ("rim", "3"), ("order", "3,1,0,2"), ("back", "ok"), ("book", LINE), ("rim", "1"),
        )
        self.refuses(desk, NothingLeft, "back", "back")

    def test_back_of_each_deed(self):
        for deed in ("house 9>1", "drop 1", "alter 1 9>1", "sizes one", "sizes any", "alter 1 4>6"):
            desk = Desk(LINE)
            self.says(desk, (deed, "3" if deed == "house 9>1" else "ok"), ("back", "ok"), ("book", LINE), ("rim", "1"))
            self.refuses(desk, NothingLeft, "back")

    def test_back_is_no_deed(self):
        desk = Desk(LINE)
        self.says(desk, ("drop 0", "ok"), ("drop 0", "ok"), ("back", "ok"), ("back", "ok"), ("book", LINE))
        self.refuses(desk, NothingLeft, "back")

    def test_rows_that_only_ask_are_no_deeds(self):
        desk = Desk(LINE)
        for row in ASKS:
            desk.say(row)
            self.refuses(desk, NothingLeft, "back")
        desk.say("drop 1")
        for row in ASKS:
            desk.say(row)
        self.says(desk, ("back", "ok"), ("book", LINE))
        self.refuses(desk, NothingLeft, "back")

    def test_two_side_by_side(self):
        one, other = Desk(LINE), Desk(LINE)
        self.says(one, ("drop 1", "ok"), ("sizes one", "ok"))
        self.says(other, ("book", LINE), ("rim", "1"))
        self.refuses(other, NothingLeft, "back")
        self.says(other, ("house 1>9", "3"))
        self.says(one, ("book", "2>2\n8>8"), ("back", "ok"), ("back", "ok"), ("book", LINE))
        self.refuses(one, NothingLeft, "back")
        self.says(other, ("rim", "3"))


class Refused(Desks):
    def test_no_row(self):
        for text in (LINE, "3,40>5,0", "\n".join(["1>1"] * 16)):
            self.refuses(Desk(text), NoRow, *BAD_ROWS)

    def test_numbers_that_are_not_so_written(self):
        desk = Desk(LINE)
        for number in BAD_KS:
            for row in ("share", "grow", "others", "alone", "scale", "drop"):
                self.refuses(desk, NoRow, f"{row} {number}")
            self.refuses(desk, NoRow, f"alter {number} 1>1")
        self.refuses(desk, NothingLeft, "back")

    def test_houses_that_are_not_so_written(self):
        few, full = Desk(LINE), Desk("\n".join(["1>1"] * 16))
        for house in judge.BAD_HOUSES:
            for desk in (few, full):
                for row in (f"house {house}", f"alter 0 {house}", f"alter 99 {house}"):
                    self.assertRaises(NoRow, desk.say, row)
        self.says(few, ("book", LINE))
        self.refuses(few, NothingLeft, "back")
        self.refuses(full, NothingLeft, "back")

    def test_houses_of_other_counts(self):
        for text in ("1>1", "3,40>5,0", "1,2,3,4>5\n1,2,3,4>6", "1>1,2,3,4"):
            counts = tuple(part.count(",") + 1 for part in text.split("\n")[0].split(">"))
            desk = Desk(text)
            for takes, gives in judge.ALL_COUNTS:
                if (takes, gives) != counts:
                    house = ",".join("7" * takes) + ">" + ",".join("8" * gives)
                    self.refuses(desk, NoBook, f"house {house}", f"alter 0 {house}")
                    self.refuses(desk, NoHouse, f"alter 2 {house}", f"alter 9999999999 {house}")
            self.refuses(desk, NothingLeft, "back")

    def test_a_seventeenth_house(self):
        desk = Desk("\n".join(["1>1"] * 15))
        self.says(desk, ("house 2>1", "15"))
        self.refuses(desk, TooMany, "house 2>1", "house 1>1", "house 1000000000>1")
        self.refuses(desk, NoBook, "house 2,1>1", "house 2>1,1")
        self.refuses(desk, NoRow, "house 0>1", "house 2>1 ", "house 1,1,1,1,1>1")
        self.says(desk, ("alter 15 3>1", "ok"), ("drop 0", "ok"), ("house 2>1", "15"), ("back", "ok"), ("back", "ok"),
                  ("back", "ok"), ("back", "ok"), ("book", "\n".join(["1>1"] * 15)))
        self.refuses(desk, NothingLeft, "back")

    def test_no_house(self):
        for text in ("2>2", LINE, "\n".join(["1>1"] * 16)):
            desk = Desk(text)
            many = text.count("\n") + 1
            for number in (many, many + 1, 10 ** 9, 10 ** 10 - 1, 2 ** 32, 2 ** 32 + 1):
                for row in ("share", "grow", "others", "alone", "scale", "drop"):
                    self.refuses(desk, NoHouse, f"{row} {number}")
                self.refuses(desk, NoHouse, f"alter {number} 1>1")
            self.refuses(desk, NothingLeft, "back")

    def test_what_is_refused_is_no_deed(self):
        desk = Desk(LINE)
        desk.say("drop 0")
        for row in ("drop 9", "drop", "house 1,1>1", "alter 0 1,1>1", "alter 9 1>1", "sizes all", "share 9"):
            self.assertRaises((NoRow, NoBook, NoHouse), desk.say, row)
        self.says(desk, ("back", "ok"), ("book", LINE))
        self.refuses(desk, NothingLeft, "back")


class ManyRows(Desks):
    """Rows drawn by fixed numbers: each is answered, or refused, out of the document's words."""

    def drawn_house(self, chance, takes, gives):
        if chance.randrange(8) == 0:
            return chance.choice(judge.BAD_HOUSES)
        if chance.randrange(8) == 0:
            takes, gives = chance.choice(judge.ALL_COUNTS)
        way = chance.choice((judge.small, judge.small, judge.noughts, judge.great))
        return text_of(way(chance, 1, takes, gives))

    def drawn_row(self, chance, book):
        number = chance.randrange(len(book))
        if chance.randrange(6) == 0:
            number = chance.choice((len(book), len(book) + 1, 10 ** 9) + BAD_KS)
        house = self.drawn_house(chance, len(book[0][0]), len(book[0][1]))
        return chance.choice((
            f"house {house}", f"house {house}", f"house {house}", f"drop {number}", f"alter {number} {house}",
            f"alter {number} {house}", f"sizes {chance.choice(SIZES)}", "back", "back", f"share {number}", f"grow {number}",
            f"others {number}", f"alone {number}", f"scale {number}", "rim", "levels", "order", "book",
            chance.choice(BAD_ROWS),
        ))

    def run_rows(self, seed, book, many):
        chance = random.Random(seed)
        desk, plain = Desk(text_of(book)), Plain(list(book))
        seen = set()
        for times in range(many):
            row = self.drawn_row(chance, plain.book)
            answer = plain.answer(row)
            with self.subTest(row=row):
                if type(answer) is str:
                    self.assertEqual(desk.say(row), answer)
                else:
                    self.assertRaises(answer, desk.say, row)
                self.assertEqual(desk.say("book"), text_of(plain.book))
            seen.add(row.split(" ")[0] if type(answer) is str else answer)
        while plain.past:
            self.assertEqual(desk.say("back"), plain.answer("back"))
            self.assertEqual(desk.say("book"), text_of(plain.book))
        self.assertRaises(NothingLeft, desk.say, "back")
        self.assertEqual(desk.say("book"), text_of(book))
        return seen

    def test_at_many_books(self):
        seen = set()
        for seed, book in enumerate(judge.some_books()[::2]):
            seen |= self.run_rows(seed, book, 60)
        self.assertEqual(seen, {NoRow, NoHouse, NoBook, NothingLeft, "house", "drop", "alter", "sizes", "back", "share",
                                "grow", "others", "alone", "scale", "rim", "levels", "order", "book"} | (seen & {TooMany}))

    def test_some_hundreds_of_rows(self):
        full = [((number + 1, 17 - number), (3, number)) for number in range(14)]
        seen = self.run_rows(15, full, 700) | self.run_rows(16, judge.LINE, 500)
        self.assertIn(TooMany, seen)


if __name__ == "__main__":
    unittest.main()
