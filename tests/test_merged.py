"""Houses put together [22], what they are worth [3], and whose they are [4]."""

import copy
import itertools
import random
import unittest

import judge
from judge import read
from rimhouse.books import is_book
from rimhouse.errors import NoHouse, TooMany
from rimhouse.merged import merged
from rimhouse.moves import share_against
from rimhouse.shares import share

MOST = 10 ** 9
BOOK = [((1, 2), (3, 0)), ((10, 20), (30, 40)), ((100, 200), (0, 400)), ((5, 5), (5, 5))]


def plainly_together(book, numbers):
    """The one house, kind by kind."""
    return tuple(tuple(sum(book[number][side][kind] for number in numbers) for kind in range(len(book[0][side])))
                 for side in (0, 1))


def plainly_merged(book, numbers):
    left = {number: house for number, house in enumerate(book) if number not in numbers}
    left[min(numbers)] = plainly_together(book, numbers)
    return [left[number] for number in sorted(left)]


def small_books():
    """Books whose houses all together keep within the bounds."""
    return [book for book in judge.many_books() if max(max(side) for house in book for side in house) * 16 <= MOST]


class ByHand(unittest.TestCase):
    def check(self, book, numbers, expected):
        with self.subTest(book=book, numbers=numbers):
            before = copy.deepcopy((book, numbers))
            self.assertEqual(merged(book, numbers), expected)
            self.assertEqual((book, numbers), before)

    def test_two(self):
        self.check(BOOK, [0, 1], [((11, 22), (33, 40)), BOOK[2], BOOK[3]])
        self.check(BOOK, [1, 3], [BOOK[0], ((15, 25), (35, 45)), BOOK[2]])
        self.check(BOOK, [2, 3], [BOOK[0], BOOK[1], ((105, 205), (5, 405))])
        self.check(BOOK, [0, 3], [((6, 7), (8, 5)), BOOK[1], BOOK[2]])

    def test_some_and_all(self):
        self.check(BOOK, [0, 1, 2], [((111, 222), (33, 440)), BOOK[3]])
        self.check(BOOK, [1, 2, 3], [BOOK[0], ((115, 225), (35, 445))])
        self.check(BOOK, [0, 1, 2, 3], [((116, 227), (38, 445))])

    def test_one_alone(self):
        for number in range(4):
            self.check(BOOK, [number], BOOK)
        self.check(BOOK[:1], [0], BOOK[:1])

    def test_numbers_in_any_order(self):
        for numbers in itertools.permutations((1, 2, 3)):
            self.check(BOOK, list(numbers), [BOOK[0], ((115, 225), (35, 445))])

    def test_houses_alike(self):
        self.check([((1,), (2,))] * 16, list(range(16)), [((16,), (32,))])
        self.check([((1,), (2,))] * 16, [15, 7], [((1,), (2,))] * 7 + [((2,), (4,))] + [((1,), (2,))] * 7)


class TooGreat(unittest.TestCase):
    def test_at_the_bound_and_one_more(self):
        for takes, gives in judge.ALL_COUNTS:
            for kind in range(takes + gives):
                for more in (0, 1):
                    with self.subTest(takes=takes, gives=gives, kind=kind, more=more):
                        self.check_bound(takes, gives, kind, more)

    def check_bound(self, takes, gives, kind, more):
        amounts = [1] * (takes + gives)
        amounts[kind] = MOST - 7 + more
        great = (tuple(amounts[:takes]), tuple(amounts[takes:]))
        book = [((3,) * takes, (3,) * gives), great, ((4,) * takes, (4,) * gives)]
        if more:
            for numbers in itertools.permutations((0, 1, 2)):
                self.assertRaises(TooMany, merged, book, list(numbers))
            self.assertTrue(is_book(merged(book, [0, 2])))
        else:
            answer = merged(book, [2, 0, 1])
            self.assertEqual(answer, [plainly_together(book, (0, 1, 2))])
            self.assertEqual((answer[0][0] + answer[0][1])[kind], MOST)

    def test_far_beyond(self):
        book = [((MOST,) * 4, (MOST,) * 4)] * 16
        self.assertRaises(TooMany, merged, book, list(range(16)))
        for number in range(16):
            self.assertEqual(merged(book, [number]), book)

    def test_other_houses_do_not_count(self):
        book = [((1,), (1,)), ((MOST,), (MOST,)), ((2,), (2,)), ((MOST,), (MOST,))]
        self.assertEqual(merged(book, [0, 2]), [((3,), (3,)), book[1], book[3]])


class Whose(unittest.TestCase):
    def test_no_house(self):
        for book in (BOOK, BOOK[:1], [((MOST,), (MOST,))] * 16):
            before = copy.deepcopy(book)
            for number in judge.no_houses(book):
                # Of the last book all others together are too great as well.
                for numbers in ([number], [0, number], [number, 0], list(range(len(book))) + [number]):
                    with self.subTest(many=len(book), numbers=numbers):
                        self.assertRaises(NoHouse, merged, book, numbers)
            self.assertEqual(book, before)

    def test_the_told_book_is_the_askers_own(self):
        for numbers in ([2], [1, 2], [0, 1, 2, 3]):
            book = list(BOOK)
            told = merged(book, numbers)
            told[0] = None
            told.append(None)
            self.assertEqual(book, BOOK)
            self.assertEqual(merged(book, numbers), plainly_merged(BOOK, numbers))
            told = merged(book, numbers)
            book.clear()
            self.assertEqual(told, plainly_merged(BOOK, numbers))


class AtManyBooks(unittest.TestCase):
    def drawn_numbers(self, chance, book):
        for times in range(4):
            yield chance.sample(range(len(book)), chance.randint(1, len(book)))

    def test_the_documents_words(self):
        chance = random.Random(22)
        seen = set()
        for book in judge.many_books():
            for numbers in self.drawn_numbers(chance, book):
                before = copy.deepcopy((book, numbers))
                with self.subTest(book=book, numbers=numbers):
                    expected = plainly_merged(book, numbers)
                    if is_book(expected):
                        self.assertEqual(merged(book, numbers), expected)
                    else:
                        self.assertRaises(TooMany, merged, book, numbers)
                    self.assertEqual((book, numbers), before)
                    seen.add((is_book(expected), len(numbers) > 1))
        self.assertEqual(seen, {(True, True), (True, False), (False, True)})

    def test_worth_no_more_than_the_best_of_them(self):
        chance = random.Random(23)
        for book in small_books():
            for numbers in self.drawn_numbers(chance, book):
                one = merged(book, numbers)[sorted(numbers)[0]]
                best = max(read(share(book, number, "any")) for number in numbers)
                with self.subTest(book=book, numbers=numbers):
                    self.assertLessEqual(read(share(book + [one], len(book), "any")), best)
                    self.assertLessEqual(read(share_against(book, one, "any")), best)


if __name__ == "__main__":
    unittest.main()
