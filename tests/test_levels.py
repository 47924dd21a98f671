"""Rim behind rim [3, 16]."""

import copy
import unittest

import judge
from judge import SIZES
from rimhouse.levels import levels
from rimhouse.rims import on_rim, rim_of


class Levels(unittest.TestCase):
    def check_level(self, book, sizes, left, level):
        """Just those of the level stand on the rim of those that are left, as is shown of each."""
        rest = [book[number] for number in left]
        for place, number in enumerate(left):
            word, shown = on_rim(rest, place, sizes)
            self.assertEqual(word == "rim", number in level)
            paper = judge.prices_rim if word == "rim" else judge.beats
            self.assertTrue(paper(rest, place, sizes, shown))

    def check(self, book, sizes):
        before = copy.deepcopy(book)
        told = levels(book, sizes)
        self.assertEqual(book, before)
        self.assertIs(type(told), list)
        self.assertEqual(told[0], rim_of(book, sizes))
        left = list(range(len(book)))
        for level in told:
            self.assertIs(type(level), list)
            self.assertNotEqual(level, [])
            self.assertEqual(level, sorted(set(level)))
            self.check_level(book, sizes, left, level)
            left = [number for number in left if number not in level]
        self.assertEqual(left, [])
        self.assertEqual(sorted(sum(told, [])), list(range(len(book))))
        return told

    def test_by_hand(self):
        for book, expected in (
            (judge.LINE, {"any": [[1], [0, 2]], "one": [[0, 1, 2]], "less": [[1, 2], [0]], "more": [[0, 1], [2]]}),
            (judge.FLAT, dict.fromkeys(SIZES, [[0, 2], [1, 3]])),
            ([((7, 3), (0, 5))], dict.fromkeys(SIZES, [[0]])),
            ([((3, 4), (5, 0))] * 16, dict.fromkeys(SIZES, [list(range(16))])),
        ):
            for sizes in SIZES:
                with self.subTest(book=book, sizes=sizes):
                    self.assertEqual(self.check(book, sizes), expected[sizes])

    def test_sixteen_levels(self):
        rising = [((k + 1, k + 1), (7,)) for k in range(16)]
        for sizes in SIZES:
            self.assertEqual(self.check(rising, sizes), [[k] for k in range(16)])
            self.assertEqual(self.check(rising[::-1], sizes), [[15 - k] for k in range(16)])

    def test_two_on_each_level(self):
        book = [((k + 1, k + 2), (7,)) for k in range(8)] + [((k + 2, k + 1), (7,)) for k in range(8)]
        for sizes in SIZES:
            self.assertEqual(self.check(book, sizes), [[k, k + 8] for k in range(8)])

    def test_at_many_books(self):
        lengths = set()
        for book in judge.some_books() + [book for book in judge.many_books() if len(book) > 8][::4]:
            for sizes in SIZES:
                lengths.add(len(self.check(book, sizes)))
        self.assertTrue({1, 2, 3} <= lengths)

    def test_told_lists_are_new_ones(self):
        for sizes in SIZES:
            first = levels(judge.FLAT, sizes)
            first[0].append(9)
            first.append([8])
            self.assertEqual(levels(judge.FLAT, sizes), [[0, 2], [1, 3]])


if __name__ == "__main__":
    unittest.main()
