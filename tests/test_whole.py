"""What holds over the whole program: whose the numbers and the told lists are [2, 4], and the promise [3]."""

import copy
import random
import unittest

import judge
from judge import SIZES, read
from rimhouse.alone import covers_house, share_alone
from rimhouse.books import is_book, is_mix, mixed
from rimhouse.desk import Desk
from rimhouse.errors import NoHouse
from rimhouse.judged import best_at, judged
from rimhouse.kept import Kept
from rimhouse.levels import levels
from rimhouse.merged import merged
from rimhouse.moves import moved, share_against
from rimhouse.others import share_of_others
from rimhouse.papers import mix_grows, mix_shows, prices_grow, prices_show
from rimhouse.rims import beats, on_rim, prices_rim, rim_of
from rimhouse.shares import growth, growth_shown, share, share_shown
from rimhouse.standing import scale, standing
from rimhouse.texts import book_text, fraction_text, read_book

BOOKS = (judge.LINE, judge.FLAT, judge.LINE[:1], [((3, 4), (5, 0))] * 16)


def kept_of(book, sizes):
    kept = Kept(len(book[0][0]), len(book[0][1]), sizes)
    for house in book:
        kept.come(house)
    return kept


def papers_of(book, number, sizes):
    """A mix and prices for the book."""
    return share_shown(book, number, sizes)[1:]


def doors_of_a_number(book, sizes):
    """Every door that is asked for a number, as a function of this number."""
    mix, prices = papers_of(book, 0, sizes)
    return {
        "share": lambda number: share(book, number, sizes),
        "growth": lambda number: growth(book, number, sizes),
        "share_shown": lambda number: share_shown(book, number, sizes),
        "growth_shown": lambda number: growth_shown(book, number, sizes),
        "mix_shows": lambda number: mix_shows(book, number, sizes, (1, 1), mix),
        "mix_grows": lambda number: mix_grows(book, number, sizes, (1, 1), mix),
        "prices_show": lambda number: prices_show(book, number, sizes, (1, 1), prices),
        "prices_grow": lambda number: prices_grow(book, number, sizes, (1, 1), prices),
        "on_rim": lambda number: on_rim(book, number, sizes),
        "beats": lambda number: beats(book, number, sizes, mix),
        "prices_rim": lambda number: prices_rim(book, number, sizes, prices),
        "share_of_others": lambda number: share_of_others(book, number, sizes),
        "go": lambda number: kept_of(book, sizes).go(number),
        "alter": lambda number: kept_of(book, sizes).alter(number, book[0]),
        "covers_house, one": lambda number: covers_house(book, number, 0),
        "covers_house, other": lambda number: covers_house(book, 0, number),
        "share_alone": lambda number: share_alone(book, number),
        "moved": lambda number: moved(book, list(book), number, sizes),
        "merged": lambda number: merged(book, [number]),
        "scale": lambda number: scale(book, number),
    }


def doors(book, sizes):
    """Every function, with things that are handed in."""
    mix, prices = papers_of(book, 0, sizes)
    fraction = share(book, 0, sizes)
    return [
        (is_book, book), (mixed, book, mix), (is_mix, book, sizes, mix),
        (share, book, 0, sizes), (growth, book, 0, sizes), (share_shown, book, 0, sizes), (growth_shown, book, 0, sizes),
        (mix_shows, book, 0, sizes, fraction, mix), (mix_grows, book, 0, sizes, fraction, mix),
        (prices_show, book, 0, sizes, fraction, prices), (prices_grow, book, 0, sizes, fraction, prices),
        (on_rim, book, 0, sizes), (on_rim, book, len(book) - 1, sizes), (rim_of, book, sizes),
        (beats, book, 0, sizes, mix), (prices_rim, book, 0, sizes, prices), (share_of_others, book, 0, sizes),
        (book_text, book), (read_book, book_text(book)), (fraction_text, fraction), (levels, book, sizes),
        (covers_house, book, 0, len(book) - 1), (share_alone, book, 0), (judged, book, prices), (best_at, book, prices),
        (share_against, book, book[0], sizes), (moved, book, list(book), 0, sizes), (merged, book, [0]),
        (merged, book, list(range(len(book)))), (scale, book, 0), (standing, book, sizes),
    ]


def lists_within(thing):
    """All lists within a thing, itself too."""
    found = [thing] if type(thing) is list else []
    for one in thing if type(thing) in (list, tuple) else ():
        found += lists_within(one)
    return found


class Whose(unittest.TestCase):
    def test_no_house_at_every_door(self):
        for book in BOOKS:
            for sizes in SIZES:
                for name, door in doors_of_a_number(book, sizes).items():
                    for number in judge.no_houses(book):
                        with self.subTest(many=len(book), sizes=sizes, door=name, number=number):
                            self.assertRaises(NoHouse, door, number)
                    door(0)
                    door(len(book) - 1)

    def test_no_house_at_the_desk(self):
        for book in BOOKS:
            desk = Desk(book_text(book))
            for number in judge.no_houses(book):
                # A number below 0, or of eleven figures, is not so written in a row.
                if 0 <= number < 10 ** 10:
                    for row in ("share", "grow", "others", "alone", "scale", "drop"):
                        self.assertRaises(NoHouse, desk.say, f"{row} {number}")
                    self.assertRaises(NoHouse, desk.say, f"alter {number} {book_text(book[:1])}")

    def test_told_lists_are_new_ones_at_every_door(self):
        for book in BOOKS:
            for sizes in SIZES:
                for door, *things in doors(book, sizes):
                    with self.subTest(door=door.__name__, many=len(book), sizes=sizes):
                        self.check_told(door, things)

    def check_told(self, door, things):
        ahead = copy.deepcopy(things)
        first, second = door(*things), door(*things)
        self.assertEqual(first, second)
        told = [id(one) for one in lists_within(first) + lists_within(second)]
        self.assertEqual(len(set(told)), len(told))
        self.assertFalse(set(told) & {id(one) for one in lists_within(things)})
        expected = copy.deepcopy(second)
        for one in lists_within(first):
            one.clear()
        self.assertEqual((door(*things), second, things), (expected, expected, ahead))

    def test_told_lists_are_new_ones_of_what_is_kept(self):
        for book in BOOKS:
            for sizes in SIZES:
                kept = kept_of(book[:15], sizes)
                told = []
                for times in range(2):
                    told += [kept.houses(), kept.shares(), kept.rim()]
                told += [kept.come(book[0]), kept.alter(0, book[-1]), kept.go(0)]
                lists = [id(one) for thing in told for one in lists_within(thing)]
                held = [id(one) for value in vars(kept).values() for one in lists_within(value)]
                self.assertEqual(len(set(lists)), 9)
                self.assertFalse(set(lists) & set(held))


class Promise(unittest.TestCase):
    def test_a_share_is_found_by_whoever_writes_a_mix_and_prices(self):
        for book in judge.some_books():
            for sizes in SIZES:
                for number in range(len(book)):
                    fraction, mix, prices = share_shown(book, number, sizes)
                    self.assertTrue(mix_shows(book, number, sizes, fraction, mix))
                    self.assertTrue(prices_show(book, number, sizes, fraction, prices))
                    self.assertEqual(fraction, share(book, number, sizes))
                    self.assertEqual(fraction, share_against(book, book[number], sizes))

    def test_each_house_is_on_the_rim_or_beaten_and_on_one_level(self):
        for book in judge.some_books():
            for sizes in SIZES:
                rim = rim_of(book, sizes)
                for number in range(len(book)):
                    word, paper = on_rim(book, number, sizes)
                    self.assertEqual(word, "rim" if number in rim else "beaten")
                    does_show = prices_rim if word == "rim" else beats
                    self.assertIs(does_show(book, number, sizes, paper), True)
                told = levels(book, sizes)
                self.assertEqual(told[0], rim)
                self.assertEqual(sorted(number for level in told for number in level), list(range(len(book))))

    def test_leaving_out_what_does_not_stand_on_the_rim(self):
        """Of what is kept, too: nothing has changed when such a house goes."""
        chance = random.Random(3)
        for book in [book for book in judge.many_books() if len(book) > 4][::4]:
            for sizes in SIZES:
                kept = kept_of(book, sizes)
                behind = [number for number in range(len(book)) if number not in kept.rim()]
                for number in chance.sample(behind, len(behind))[:3]:
                    rim = [one - (one > number) for one in kept.rim()]
                    self.assertEqual(kept.go(number), [])
                    self.assertEqual(kept.rim(), rim)
                    kept.back()

    def test_what_is_kept_and_what_the_desk_tells_are_the_same(self):
        for book in judge.some_books():
            for sizes in SIZES:
                kept, desk = kept_of(book, sizes), Desk(book_text(book))
                desk.say(f"sizes {sizes}")
                told = [desk.say(f"share {number}") for number in range(len(book))]
                self.assertEqual([fraction_text(one) for one in kept.shares()], told)
                self.assertEqual(",".join(map(str, kept.rim())), desk.say("rim"))
                self.assertEqual(read_book(desk.say("book")), kept.houses())

    def test_houses_put_together_and_put_behind_all(self):
        for book in judge.some_books():
            if max(max(side) for house in book for side in house) * len(book) <= 10 ** 9:
                for numbers in ([0], list(range(len(book))), list(range(0, len(book), 2))):
                    kept = kept_of(book, "any")
                    best = max(read(kept.shares()[number]) for number in numbers)
                    one, changes = kept.come(merged(book, numbers)[numbers[0]])
                    self.assertLessEqual(read(one), best)
                    self.assertEqual(changes, [])


if __name__ == "__main__":
    unittest.main()
