"""Houses held against another book [20], how far they have moved [21], and whose they are [3, 4]."""

import copy
import random
import unittest

import judge
from judge import SIZES, read, told
from rimhouse.errors import NoBook, NoHouse
from rimhouse.moves import moved, share_against
from rimhouse.others import share_of_others
from rimhouse.shares import share, share_shown

MOST = 10 ** 9


def strangers(chance, book):
    """Houses of like counts that need not stand in the book: some all but one of its own, some of any amounts."""
    takes, gives = book[0]
    for times in range(4):
        had_takes, had_gives = chance.choice(book)
        yield (tuple(max(1, one + chance.choice((-1, 0, 1))) for one in had_takes),
               tuple(one + chance.choice((0, 1)) for one in had_gives[:-1]) + (had_gives[-1] + 1,))
        high = chance.choice((3, MOST))
        yield (judge.amounts(chance, len(takes), 1, high), judge.gives_with_noughts(chance, len(gives), high))


def pairs_of_books():
    """Books of like counts, with as many houses or not: altered a little, in another order, or drawn by themselves."""
    chance = random.Random(21)
    books = judge.some_books()
    for book in books:
        yield book, [next(strangers(chance, book)) for house in book]
        yield book, chance.sample(book, len(book))
        yield book, book + [book[0]]
        yield book, [(takes, gives[::-1]) for takes, gives in book]
        like = [other for other in books if [len(side) for side in other[0]] == [len(side) for side in book[0]]]
        yield book, chance.choice(like)


class Against(unittest.TestCase):
    def check(self, book, house, **expected):
        for sizes in SIZES:
            with self.subTest(book=book, house=house, sizes=sizes):
                before = copy.deepcopy((book, house))
                self.assertEqual(share_against(book, house, sizes), expected[sizes])
                self.assertEqual((book, house), before)

    def check_all(self, book, house, expected):
        self.check(book, house, any=expected, one=expected, less=expected, more=expected)

    def test_one_take_and_one_give(self):
        # House 0 takes 2 and gives 2, house 1 takes 4 and gives 6, house 2 takes 8 and gives 8.
        self.check(judge.LINE, ((3,), (3,)), any=(2, 3), less=(2, 3), one=(5, 6), more=(5, 6))
        self.check(judge.LINE, ((2,), (3,)), any=(1, 1), less=(1, 1), one=(5, 4), more=(5, 4))
        self.check(judge.LINE, ((1,), (3,)), any=(2, 1), less=(2, 1), one=(5, 2), more=(5, 2))
        self.check(judge.LINE, ((1,), (1,)), any=(2, 3), less=(2, 3), one=(2, 1), more=(2, 1))
        self.check(judge.LINE, ((4,), (7,)), any=(7, 6), less=(3, 2), one=(3, 2), more=(7, 6))
        self.check(judge.LINE, ((4,), (8,)), any=(4, 3), less=(2, 1), one=(2, 1), more=(4, 3))
        self.check(judge.LINE, ((4,), (9,)), any=(3, 2), less=None, one=None, more=(3, 2))

    def test_above_at_and_below_one(self):
        for take, expected in ((1, (4, 1)), (3, (4, 3)), (4, (1, 1)), (5, (4, 5)), (16, (1, 4))):
            self.check_all([((4,), (6, 7))], ((take,), (6, 7)), expected)

    def test_a_kind_that_no_house_gives(self):
        book = [((1, 1), (9, 0)), ((1, 1), (8, 0))]
        self.check_all(book, ((5, 5), (1, 1)), None)
        self.check_all(book, ((5, 5), (0, MOST)), None)
        self.check(book, ((5, 5), (1, 0)), any=(1, 45), less=(1, 45), one=(1, 5), more=(1, 5))

    def test_a_house_that_gives_more_than_all(self):
        book = [((1,), (5, 0)), ((1,), (0, 5)), ((1,), (2, 2))]
        self.check(book, ((1,), (3, 3)), any=(6, 5), more=(6, 5), one=None, less=None)
        self.check_all(book, ((2,), (4, 1)), (1, 2))
        most = [((4,), (MOST,))]
        self.check_all(most, ((4,), (MOST,)), (1, 1))
        self.check([((4,), (MOST - 1,))], ((4,), (MOST,)),
                   any=(MOST, MOST - 1), more=(MOST, MOST - 1), one=None, less=None)

    def test_a_house_of_the_book_itself(self):
        for book in judge.many_books():
            for sizes in SIZES:
                for number, house in enumerate(book):
                    self.assertEqual(share_against(book, house, sizes), share(book, number, sizes))

    def test_against_the_book_of_all_others(self):
        for book in [book for book in judge.many_books() if len(book) > 1]:
            for sizes in SIZES:
                for number, house in enumerate(book):
                    others = book[:number] + book[number + 1:]
                    self.assertEqual(share_against(others, house, sizes), share_of_others(book, number, sizes))

    def check_stranger(self, book, house, sizes):
        """By a house that no mix gains by, the share among all is that against the book, and is shown."""
        answer = share_against(book, house, sizes)
        far = book + [judge.swollen(house)]
        fraction, mix, prices = share_shown(far, len(book), sizes)
        self.assertTrue(judge.mix_shows(far, len(book), sizes, fraction, mix))
        self.assertTrue(judge.prices_show(far, len(book), sizes, fraction, prices))
        if answer is None:
            self.assertEqual(fraction, (1, 1))
            return "none"
        self.assertTrue(judge.is_fraction(answer))
        self.assertEqual(read(answer), read(fraction) * judge.FAR)
        return (answer[0] > answer[1]) - (answer[0] < answer[1])

    def test_houses_that_do_not_stand_there(self):
        chance = random.Random(20)
        seen = set()
        for book in judge.some_books() + [book for book in judge.many_books() if len(book) > 4][::3]:
            for house in strangers(chance, book):
                before = copy.deepcopy((book, house))
                for sizes in SIZES:
                    with self.subTest(book=book, house=house, sizes=sizes):
                        seen.add((sizes, self.check_stranger(book, house, sizes)))
                self.assertEqual((book, house), before)
                # A kind that lacks is told by the book alone, whatever the sizes.
                lacks = any(give and not any(had[1][kind] for had in book) for kind, give in enumerate(house[1]))
                for sizes in ("any", "more"):
                    self.assertIs(share_against(book, house, sizes) is None, lacks)
        self.assertEqual(len(seen), 16)

    def test_other_counts(self):
        for takes, gives in judge.ALL_COUNTS:
            book = [((2,) * takes, (3,) * gives)] * 2
            for other_takes, other_gives in judge.ALL_COUNTS + ((5, 1), (1, 5), (0, 1), (1, 0)):
                house = ((2,) * other_takes, (3,) * other_gives)
                for sizes in SIZES:
                    with self.subTest(book=book, house=house, sizes=sizes):
                        if (takes, gives) == (other_takes, other_gives):
                            self.assertEqual(share_against(book, house, sizes), (1, 1))
                        else:
                            self.assertRaises(NoBook, share_against, book, house, sizes)

    def test_amounts_somewhat_beyond(self):
        self.check_all([((MOST,), (MOST,))], ((2 * MOST,), (MOST,)), (1, 2))
        self.check([((MOST,), (MOST,))], ((MOST,), (2 * MOST,)), any=(2, 1), more=(2, 1), one=None, less=None)


class Moved(unittest.TestCase):
    def check(self, before, after, number, sizes, expected):
        with self.subTest(before=before, after=after, number=number, sizes=sizes):
            handed = copy.deepcopy((before, after))
            self.assertEqual(moved(before, after, number, sizes), expected)
            self.assertEqual((before, after), handed)

    def test_one_take_and_one_give(self):
        # By "any" the best gave 3/2 of what it took in, and gives 2 now.
        after = [((2,), (4,)), ((4,), (6,)), ((8,), (8,))]
        for number, catch, back in ((0, (3, 2), (2, 3)), (1, (3, 4), (4, 3)), (2, (3, 4), (4, 3))):
            self.check(judge.LINE, after, number, "any", (catch, (16, 9)))
            self.check(after, judge.LINE, number, "any", (back, (9, 16)))

    def test_by_one(self):
        before, after = [((2,), (2,)), ((4,), (6,))], [((2,), (3,)), ((4,), (9,))]
        self.check(before, after, 0, "one", ((1, 1), (5, 4)))
        self.check(after, before, 0, "one", ((1, 1), (4, 5)))

    def test_no_rim_from_either_side(self):
        before, after = [((2,), (2,)), ((4,), (6,))], [((2,), (3,)), ((4,), (9,))]
        for sizes in ("one", "less"):
            self.assertIsNone(share_against(before, after[1], sizes))
            self.assertIsNotNone(share_against(after, before[1], sizes))
            self.check(before, after, 1, sizes, ((1, 1), None))
            self.check(after, before, 1, sizes, ((1, 1), None))
        for sizes in SIZES:
            # A kind that one of both gives alone, or each of both.
            self.check([((1,), (5, 0))], [((1,), (5, 3))], 0, sizes, ((1, 1), None))
            self.check([((1,), (5, 3))], [((1,), (5, 0))], 0, sizes, ((1, 1), None))
            self.check([((1,), (0, 5))], [((1,), (5, 0))], 0, sizes, ((1, 1), None))

    def test_catch_is_told_without_rim(self):
        before, after = [((4,), (1, 0)), ((1,), (1, 0))], [((2,), (1, 1)), ((1,), (1, 1))]
        for sizes in SIZES:
            self.check(before, after, 0, sizes, ((2, 1), None))
            self.check(after, before, 0, sizes, ((1, 2), None))

    def test_to_the_same_book(self):
        for book in judge.many_books():
            for sizes in SIZES:
                for number in range(len(book)):
                    self.check(book, list(book), number, sizes, ((1, 1), (1, 1)))

    def test_the_documents_words(self):
        seen = set()
        for before, after in pairs_of_books():
            for sizes in SIZES:
                for number in range(min(len(before), len(after))):
                    self.check_words(before, after, number, sizes, seen)
        self.assertEqual(len(seen), 16)

    def check_words(self, before, after, number, sizes, seen):
        ahead, behind = read(share(before, number, sizes)), read(share(after, number, sizes))
        first = share_against(before, after[number], sizes)
        second = share_against(after, before[number], sizes)
        rim = None
        if first is not None and second is not None:
            rim = told(read(first) / behind * (ahead / read(second)))
        self.check(before, after, number, sizes, (told(behind / ahead), rim))
        seen.add((sizes, first is None, second is None))
        there, again = moved(before, after, number, sizes), moved(after, before, number, sizes)
        self.assertIs(type(there), tuple)
        self.assertEqual(read(there[0]) * read(again[0]), 1)
        self.assertEqual(there[1] is None, again[1] is None)
        if rim is not None:
            self.assertTrue(judge.is_fraction(there[1]))
            self.assertEqual(read(there[1]) * read(again[1]), 1)

    def test_books_of_unlike_counts(self):
        for takes, gives in judge.ALL_COUNTS:
            for other_takes, other_gives in judge.ALL_COUNTS:
                if (takes, gives) != (other_takes, other_gives):
                    before = [((2,) * takes, (3,) * gives)] * 2
                    after = [((2,) * other_takes, (3,) * other_gives)] * 3
                    # 2 is none in the first one alone; the rest but 0 and 1 are none in both.
                    for number in (0, 1, 2, 3, -1, 10 ** 39):
                        self.assertRaises(NoBook, moved, before, after, number, "any")
                        self.assertRaises(NoBook, moved, after, before, number, "one")

    def test_no_house(self):
        few, many = [((2, 1), (3,))] * 2, [((2, 1), (3,))] * 5
        for sizes in SIZES:
            for number in judge.no_houses(many):
                self.assertRaises(NoHouse, moved, few, many, number, sizes)
                self.assertRaises(NoHouse, moved, many, few, number, sizes)
                self.assertRaises(NoHouse, moved, many, many, number, sizes)
            for number in (2, 3, 4):
                self.assertRaises(NoHouse, moved, few, many, number, sizes)
                self.assertRaises(NoHouse, moved, many, few, number, sizes)
            for number in (0, 1):
                self.assertEqual(moved(few, many, number, sizes), ((1, 1), (1, 1)))


if __name__ == "__main__":
    unittest.main()
