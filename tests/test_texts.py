"""How books and fractions are written and read [14], and whose they are [2]."""

import copy
import unittest

import judge
from rimhouse.books import is_book
from rimhouse.errors import NoText, RimError
from rimhouse.texts import book_text, fraction_text, read_book

MOST = 10 ** 9
WRITTEN = (
    ("3,40>5,0", [((3, 40), (5, 0))]),
    ("1>1", [((1,), (1,))]),
    ("2>2\n4>6\n8>8", [((2,), (2,)), ((4,), (6,)), ((8,), (8,))]),
    ("1000000000,1,10,100>0,0,0,1000000000", [((MOST, 1, 10, 100), (0, 0, 0, MOST))]),
    ("1,2,3,4>5\n5,4,3,2>10", [((1, 2, 3, 4), (5,)), ((5, 4, 3, 2), (10,))]),
    ("7>0,1,0\n7>0,1,0", [((7,), (0, 1, 0)), ((7,), (0, 1, 0))]),
)


def plain_text(book):
    return "\n".join(">".join(",".join(map(str, side)) for side in house) for house in book)


class Written(unittest.TestCase):
    def test_by_hand(self):
        for text, book in WRITTEN:
            with self.subTest(text=text):
                before = copy.deepcopy(book)
                self.assertEqual(book_text(book), text)
                self.assertEqual(read_book(text), book)
                self.assertEqual(book, before)

    def test_at_many_books(self):
        for book in judge.many_books():
            text = book_text(book)
            self.assertEqual(text, plain_text(book))
            again = read_book(text)
            self.assertEqual(again, book)
            self.assertTrue(is_book(again))
            self.assertIs(type(again), list)
            for house in again:
                self.assertEqual((type(house), type(house[0]), type(house[1])), (tuple, tuple, tuple))
            self.assertEqual(book_text(again), text)

    def test_each_count(self):
        for takes, gives in judge.ALL_COUNTS:
            for many in (1, 2, 15, 16):
                book = [((9,) * takes, (0,) * (gives - 1) + (1,))] * many
                self.assertEqual(read_book(plain_text(book)), book)
                self.assertEqual(book_text(book), plain_text(book))

    def test_the_bounds_of_amounts(self):
        for one in (1, 9, 10, 99, 100, MOST - 1, MOST):
            self.assertEqual(read_book(f"{one}>{one}"), [((one,), (one,))])
            self.assertEqual(read_book(f"{one},1>0,{one}"), [((one, 1), (0, one))])

    def test_told_books_are_new_ones(self):
        text = "2>2\n4>6"
        first = read_book(text)
        first[0] = None
        first.clear()
        self.assertEqual(read_book(text), [((2,), (2,)), ((4,), (6,))])


class Refused(unittest.TestCase):
    def check(self, text):
        with self.subTest(text=text):
            self.assertRaises(NoText, read_book, text)

    def test_houses_that_are_none(self):
        for row in judge.BAD_HOUSES:
            # A line feed in a row makes two of it.
            if "\n" not in row:
                self.check(row)
                takes, gives = row.count(",", 0, row.find(">") + 1) + 1, row.count(",", row.find(">")) + 1
                good = plain_text([((1,) * takes, (1,) * gives)])
                self.check(f"{row}\n{good}")
                self.check(f"{good}\n{row}")
                self.check(f"{good}\n{row}\n{good}")

    def test_line_feeds(self):
        for text in ("", "\n", "\n\n", "1>1\n", "\n1>1", "1>1\n\n1>1", "1>1\n1>1\n", "1>1\n\n", "1>\n1", "1\n>1",
                     "1>1\r\n1>1", "1>1\\n1>1", "1>1,\n1>1", "1>1;1>1", "1>1 1>1", "1>1\t1>1"):
            self.check(text)

    def test_blanks_and_tabs(self):
        text = "3,40>5,0\n2,50>4,1"
        for place in range(len(text) + 1):
            for sign in (" ", "\t", "+", "-", "_", ".", "\n\n", "a", "~", "!"):
                self.check(text[:place] + sign + text[place:])

    def test_a_sign_left_out_or_told_twice(self):
        text = "3,40>5,0\n2,50>4,1"
        for place, sign in enumerate(text):
            if sign in ",>\n":
                self.check(text[:place] + text[place + 1:])
                self.check(text[:place] + sign + text[place:])

    def test_rows_of_unlike_counts(self):
        for counts in judge.ALL_COUNTS:
            for others in judge.ALL_COUNTS:
                rows = [">".join(",".join("1" * many) for many in each) for each in (counts, others)]
                if counts == others:
                    self.assertEqual(len(read_book("\n".join(rows))), 2)
                else:
                    self.check("\n".join(rows))
                    self.check("\n".join([rows[0]] * 14 + [rows[1], rows[0]]))

    def test_seventeen_rows(self):
        self.assertEqual(len(read_book("\n".join(["1>1"] * 16))), 16)
        for many in (17, 18, 100, 2500):
            self.check("\n".join(["1>1"] * many))

    def test_long_texts(self):
        for text in ("1" * 10000, "1," * 5000, ">" * 10000, "\n" * 10000, " " * 10000, "0" * 10000, "1>" + "0" * 9998,
                     "1>" + "1" * 9998, "1>" + ",".join("1" * 4999)):
            self.check(text)

    def test_figures_alone(self):
        for code in list(range(32, 127)) + [9, 10, 0xb2, 0x661, 0x967, 0xff15, 0x1d7d8]:
            for text in (f"{chr(code)}>1", f"1>{chr(code)}", f"1{chr(code)}>1", f"1>1{chr(code)}"):
                if chr(code) in "0123456789" and text not in ("0>1", "1>0"):
                    self.assertTrue(is_book(read_book(text)))
                else:
                    self.check(text)

    def test_a_refusal_of_the_program(self):
        self.assertRaises(RimError, read_book, "")
        self.assertRaises(ValueError, read_book, "")


class Fractions(unittest.TestCase):
    def test_whole_ones(self):
        for top in (0, 1, 2, 10, 10 ** 299, -1, -7, -10 ** 299):
            self.assertEqual(fraction_text((top, 1)), str(top))

    def test_others(self):
        for one, text in (((1, 2), "1/2"), ((-1, 2), "-1/2"), ((7, 3), "7/3"), ((-22, 7), "-22/7"), ((2, 11), "2/11"),
                          ((1, 10), "1/10"), ((10 ** 299, 10 ** 299 + 1), f"{10 ** 299}/{10 ** 299 + 1}")):
            self.assertEqual(fraction_text(one), text)


if __name__ == "__main__":
    unittest.main()
