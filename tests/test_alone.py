"""Single houses held against one another [17, 18], and whose they are [4]."""

import copy
import unittest
from fractions import Fraction

import judge
from judge import SIZES, read, told
from rimhouse.alone import covers_house, share_alone
from rimhouse.errors import NoHouse
from rimhouse.shares import share


def plainly_covers(book, one, other):
    return all(book[one][1][kind] >= book[other][1][kind] for kind in range(len(book[0][1])))


def plainly_alone(book, number):
    """House by house: the least fraction, and the least number of those that show it."""
    tried = []
    for other in range(len(book)):
        if plainly_covers(book, other, number):
            times = max(Fraction(book[other][0][kind], take) for kind, take in enumerate(book[number][0]))
            tried.append((times, other))
    return (told(min(tried)[0]), min(tried)[1])


class Covers(unittest.TestCase):
    def test_by_hand(self):
        book = [((9, 9), (3, 0)), ((1, 1), (3, 1)), ((5, 5), (2, 1)), ((9, 9), (3, 0)), ((1, 1), (0, 7))]
        expected = [
            [True, False, False, True, False],
            [True, True, True, True, False],
            [False, False, True, False, False],
            [True, False, False, True, False],
            [False, False, False, False, True],
        ]
        for one in range(5):
            for other in range(5):
                with self.subTest(one=one, other=other):
                    self.assertIs(covers_house(book, one, other), expected[one][other])

    def test_at_many_books(self):
        for book in judge.many_books():
            before = copy.deepcopy(book)
            for one in range(len(book)):
                self.assertIs(covers_house(book, one, one), True)
                for other in range(len(book)):
                    self.assertIs(covers_house(book, one, other), plainly_covers(book, one, other))
            self.assertEqual(book, before)

    def test_takes_do_not_matter(self):
        self.assertIs(covers_house([((10 ** 9,), (1,)), ((1,), (1,))], 0, 1), True)
        self.assertIs(covers_house([((10 ** 9,), (1,)), ((1,), (1,))], 1, 0), True)

    def test_no_house(self):
        for book in ([((1,), (1,))], judge.LINE, [((3, 4), (5, 0))] * 16):
            many = len(book)
            for number in (-1, -2, -many, -many - 1, many, many + 1, 10 ** 39, -10 ** 39):
                for good in range(many):
                    with self.subTest(many=many, number=number, good=good):
                        self.assertRaises(NoHouse, covers_house, book, number, good)
                        self.assertRaises(NoHouse, covers_house, book, good, number)
                        self.assertRaises(NoHouse, covers_house, book, number, number)


class Alone(unittest.TestCase):
    def test_by_hand(self):
        book = [((6, 6), (3, 1)), ((2, 5), (3, 1)), ((5, 2), (4, 1)), ((1, 1), (9, 0)), ((4, 4), (2, 1))]
        # Houses 1 and 2 both shrink house 0 to 5/6; house 3 does not cover it.
        self.assertEqual(share_alone(book, 0), ((5, 6), 1))
        self.assertEqual(share_alone(book, 1), ((1, 1), 1))
        self.assertEqual(share_alone(book, 2), ((1, 1), 2))
        self.assertEqual(share_alone(book, 3), ((1, 1), 3))
        # House 1 would need 5/4 of it.
        self.assertEqual(share_alone(book, 4), ((1, 1), 4))

    def test_houses_alike(self):
        for many in (1, 2, 16):
            book = [((3, 4), (5, 0))] * many
            for number in range(many):
                self.assertEqual(share_alone(book, number), ((1, 1), 0))

    def test_the_least_number_of_several(self):
        low, high = ((1, 2), (3, 3)), ((4, 4), (3, 3))
        for places in ((0, 1), (1, 3), (2, 3), (0, 3)):
            book = [high] * 4
            for place in places:
                book[place] = low
            for number in range(4):
                expected = (1, 1) if book[number] == low else (1, 2)
                self.assertEqual(share_alone(book, number), (expected, places[0]))

    def test_gives_of_nought(self):
        book = [((8,), (5, 0)), ((4,), (5, 1)), ((2,), (0, 9)), ((3,), (0, 1))]
        self.assertEqual([share_alone(book, number) for number in range(4)],
                         [((1, 2), 1), ((1, 1), 1), ((1, 1), 2), ((2, 3), 2)])

    def test_at_many_books(self):
        seen = set()
        for book in judge.many_books():
            before = copy.deepcopy(book)
            for number in range(len(book)):
                answer = share_alone(book, number)
                self.assertEqual(answer, plainly_alone(book, number))
                self.assertIs(type(answer), tuple)
                self.assertTrue(judge.is_fraction(answer[0]))
                self.assertIs(type(answer[1]), int)
                # A single house is a mix that is let by all sizes, so none shrinks further than the share.
                for sizes in SIZES[:2]:
                    self.assertLessEqual(read(share(book, number, sizes)), read(answer[0]))
                seen.add((answer[0] == (1, 1), (answer[1] > number) - (answer[1] < number)))
            self.assertEqual(book, before)
        self.assertEqual(seen, {(True, 0), (True, -1), (False, -1), (False, 1)})

    def test_no_house(self):
        for book in ([((1,), (1,))], judge.LINE, [((3, 4), (5, 0))] * 16):
            many = len(book)
            for number in (-1, -2, -many, -many - 1, many, many + 1, 10 ** 39, -10 ** 39):
                with self.subTest(many=many, number=number):
                    self.assertRaises(NoHouse, share_alone, book, number)


if __name__ == "__main__":
    unittest.main()
