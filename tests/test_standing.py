"""Houses called too small or too great [23], and how they stand [24]; whose they are [4]."""

import copy
import unittest

import judge
from judge import SIZES, read
from rimhouse.errors import NoHouse
from rimhouse.others import share_of_others
from rimhouse.shares import share
from rimhouse.standing import scale, standing


def plain_scale(book, number):
    by_any, by_one, by_less = (share(book, number, sizes) for sizes in ("any", "one", "less"))
    if by_any == by_one:
        return "just"
    return "small" if by_any == by_less else "great"


def plain_place(book, number, sizes):
    """What a house is put in order by, out of the document's words."""
    others = share_of_others(book, number, sizes)
    behind = (0, 0) if others is None else (1, -read(others))
    return (-read(share(book, number, sizes)), behind, number)


class Scale(unittest.TestCase):
    def check(self, book, expected):
        before = copy.deepcopy(book)
        self.assertEqual([scale(book, number) for number in range(len(book))], expected)
        self.assertEqual(book, before)

    def test_one_take_and_one_give(self):
        # Each house is held against house 1, which gives most for what it takes in.
        self.check(judge.LINE, ["small", "just", "great"])
        self.check([((1,), (1,)), ((2,), (4,)), ((3,), (5,)), ((4,), (6,)), ((2,), (3,))],
                   ["small", "just", "great", "great", "small"])

    def test_on_the_rim_or_behind_it(self):
        # House 1 gives twice what house 0 does, house 2 half of it: both take in far too much for it.
        self.check([((4,), (8,)), ((90,), (16,)), ((90,), (4,)), ((90,), (8,)), ((8,), (16,))],
                   ["just", "just", "small", "just", "just"])
        self.check([((4,), (8,)), ((90,), (16,)), ((90,), (4,)), ((90,), (8,))], ["just", "great", "small", "just"])

    def test_alone_and_alike(self):
        self.check([((7, 3), (0, 5))], ["just"])
        self.check([((7, 3), (0, 5))] * 16, ["just"] * 16)
        self.check([((7, 3), (0, 5)), ((70, 30), (0, 50))], ["just", "just"])

    def test_the_widest_span(self):
        most = 10 ** 9
        self.check([((1,), (most,)), ((most,), (1,))], ["just", "small"])
        self.check([((1,), (most - 1,)), ((most,), (most,))], ["just", "great"])
        self.check([((most - 1,), (most - 1,)), ((most, ), (most, )), ((1,), (1,))], ["just", "just", "just"])

    def test_at_many_books(self):
        seen = set()
        for book in judge.many_books():
            expected = [plain_scale(book, number) for number in range(len(book))]
            with self.subTest(book=book):
                self.check(book, expected)
            seen |= set(expected)
        self.assertEqual(seen, {"just", "small", "great"})

    def test_no_house(self):
        for book in (judge.LINE, judge.LINE[:1], [((3, 4), (5, 0))] * 16):
            for number in judge.no_houses(book):
                self.assertRaises(NoHouse, scale, book, number)


class Standing(unittest.TestCase):
    def check(self, book, sizes, expected):
        with self.subTest(book=book, sizes=sizes):
            before = copy.deepcopy(book)
            answer = standing(book, sizes)
            self.assertIs(type(answer), list)
            self.assertEqual(answer, expected)
            self.assertEqual(book, before)

    def test_one_take_and_one_give(self):
        # Against the others the houses have 2/3, 3/2, 2/3 by "any"; 2, 3/2 and None by "one".
        self.check(judge.LINE, "any", [1, 0, 2])
        self.check(judge.LINE, "one", [2, 0, 1])
        self.check(judge.LINE, "less", [2, 1, 0])
        self.check(judge.LINE, "more", [0, 1, 2])

    def test_none_ahead_of_all(self):
        # Houses 1 and 3 give a kind each that no other one gives.
        book = [((1,), (900, 0, 0)), ((9,), (1, 1, 0)), ((2,), (900, 0, 0)), ((9,), (1, 0, 1))]
        for sizes in SIZES:
            self.check(book, sizes, [1, 3, 0, 2])
            self.check(book[::-1], sizes, [0, 2, 3, 1])

    def test_like_shares_parted_by_those_against_the_others(self):
        # Each is on the rim, and the later ones are worth more against the others.
        book = [((4, 9), (1,)), ((5, 5), (1,)), ((90, 1), (1,))]
        for sizes in SIZES:
            self.assertEqual([share(book, number, sizes) for number in range(3)], [(1, 1)] * 3)
            against = [share_of_others(book, number, sizes) for number in range(3)]
            self.assertEqual(against, [(5, 4), (403, 235), (5, 1)])
            self.check(book, sizes, [2, 1, 0])
            self.check(book[::-1], sizes, [0, 1, 2])
            self.check([book[1], book[2], book[0]], sizes, [1, 0, 2])

    def test_houses_alike_by_their_numbers(self):
        for many in (1, 2, 5, 16):
            for sizes in SIZES:
                self.check([((7, 3), (0, 5))] * many, sizes, list(range(many)))
        low, high = ((9,), (3,)), ((3,), (3,))
        for sizes in SIZES:
            self.check([low, high, low, high, low], sizes, [1, 3, 0, 2, 4])

    def test_a_house_of_the_rim_ahead_of_one_that_another_house_is_like(self):
        for sizes in SIZES:
            self.check([((4, 4), (3,)), ((4, 4), (3,)), ((1, 9), (3,))], sizes, [2, 0, 1])

    def test_at_many_books(self):
        seen = set()
        for book in judge.many_books():
            for sizes in SIZES:
                places = sorted(plain_place(book, number, sizes) for number in range(len(book)))
                self.check(book, sizes, [place[-1] for place in places])
                for one, other in zip(places, places[1:]):
                    seen.add((sizes, [had == like for had, like in zip(one, other)].index(False), one[1] == (0, 0)))
        # Parted by the share, by the one against the others, by the number; by all sizes, and None or not.
        self.assertEqual(len({(sizes, at) for sizes, at, none in seen}), 12)
        self.assertEqual(len({(at, none) for sizes, at, none in seen}), 6)

    def test_told_lists_are_new_ones(self):
        for sizes in SIZES:
            first = standing(judge.LINE, sizes)
            expected = list(first)
            first.clear()
            self.assertEqual(standing(judge.LINE, sizes), expected)


if __name__ == "__main__":
    unittest.main()
