"""Where houses stand on the rim and where mixes beat them [3, 10], and whose standing it is [4]."""

import copy
import itertools
import unittest
from fractions import Fraction

import judge
from judge import LITTLE, SIZES, told
from rimhouse.errors import NoHouse
from rimhouse.rims import beats, on_rim, prices_rim, rim_of
from rimhouse.shares import growth, share


def alone(book, number):
    """The mix of the house alone."""
    return [(1, 1) if other == number else (0, 1) for other in range(len(book))]


class Rims(unittest.TestCase):
    def ask(self, paper, expected, *asked):
        """The paper tells just what is expected, and changes nothing that is handed in."""
        before = copy.deepcopy(asked)
        self.assertIs(paper(*asked), expected, (paper.__name__, asked))
        self.assertEqual(asked, before)

    def check_standing(self, book, number, sizes):
        """What is told of a house holds by the document's own words; told is whether it is on the rim."""
        before = copy.deepcopy(book)
        answer = on_rim(book, number, sizes)
        self.assertEqual(book, before)
        self.assertIs(type(answer), tuple)
        word, shown = answer
        if word == "rim":
            self.assertTrue(judge.are_prices_in_form(book, shown), shown)
            self.assertTrue(judge.prices_rim(book, number, sizes, shown), (book, number, sizes, shown))
            self.ask(prices_rim, True, book, number, sizes, shown)
        else:
            self.assertEqual(word, "beaten")
            self.assertTrue(judge.is_list_of_fractions(shown, len(book)), shown)
            self.assertTrue(judge.beats(book, number, sizes, shown), (book, number, sizes, shown))
            self.ask(beats, True, book, number, sizes, shown)
        return word == "rim"

    def check_book(self, book):
        for sizes in SIZES:
            expected = [number for number in range(len(book)) if self.check_standing(book, number, sizes)]
            self.assertNotEqual(expected, [])
            before = copy.deepcopy(book)
            first = rim_of(book, sizes)
            self.assertEqual(book, before)
            self.assertEqual(first, expected)
            self.assertIs(type(first), list)
            first.append("spoilt")
            self.assertEqual(rim_of(book, sizes), expected)


class ByHand(Rims):
    def test_one_take_and_one_give(self):
        expected = {"any": [1], "one": [0, 1, 2], "less": [1, 2], "more": [0, 1]}
        for sizes in SIZES:
            self.assertEqual(rim_of(judge.LINE, sizes), expected[sizes])

    def test_a_share_of_one_and_beaten_all_the_same(self):
        for sizes in SIZES:
            self.assertEqual(share(judge.FLAT, 3, sizes), (1, 1))
            word, mix = on_rim(judge.FLAT, 3, sizes)
            self.assertEqual(word, "beaten")
            self.assertTrue(judge.beats(judge.FLAT, 3, sizes, mix))
            self.assertEqual(rim_of(judge.FLAT, sizes), [0, 2])
            # Here the share and the growth are 1, and the second kind alone is given out more.
            book = [((1,), (3, 1)), ((1,), (3, 2))]
            self.assertEqual((share(book, 0, sizes), growth(book, 0, sizes)), ((1, 1), (1, 1)))
            self.assertEqual((on_rim(book, 0, sizes)[0], on_rim(book, 1, sizes)[0]), ("beaten", "rim"))

    def test_a_give_of_nought_that_another_house_gives(self):
        book = [((1, 1), (1, 0)), ((1, 1), (1, 1))]
        for sizes in SIZES:
            self.assertEqual(rim_of(book, sizes), [1])

    def test_houses_alike(self):
        for many in (1, 2, 16):
            for sizes in SIZES:
                self.assertEqual(rim_of([((3, 4), (5, 0))] * many, sizes), list(range(many)))

    def test_multiples(self):
        book = [((2, 4), (6, 0)), ((1, 2), (3, 0)), ((3, 6), (9, 0))]
        for sizes in SIZES:
            # None beats another one: each does the same, so many times.
            self.assertEqual(rim_of(book, sizes), [0, 1, 2])

    def test_a_hair(self):
        most = 10 ** 9
        book = [((most, most), (most, most)), ((most, most), (most, most - 1)), ((most - 1, most), (most, most))]
        for sizes in SIZES:
            self.assertEqual(rim_of(book, sizes), [2])

    def test_a_mix_between_two(self):
        # House 2 lies just between the two others, house 3 a hair behind it, house 4 a hair ahead.
        most = 10 ** 9
        book = [((2, most), (7,)), ((most, 2), (7,)), ((most // 2 + 1, most // 2 + 1), (7,))]
        for sizes in SIZES:
            self.assertEqual(rim_of(book, sizes), [0, 1, 2])
            behind = ((most // 2 + 1, most // 2 + 2), (7,))
            self.assertEqual(rim_of(book + [behind], sizes), [0, 1, 2])
            ahead = ((most // 2, most // 2 + 1), (7,))
            self.assertEqual(rim_of(book + [ahead], sizes), [0, 1, 3])

    def test_mixes_that_beat(self):
        for sizes in SIZES:
            wide = sizes in ("any", "less")
            self.ask(beats, wide, judge.LINE, 0, sizes, [(0, 1), (1, 3), (0, 1)])
            self.ask(beats, wide, judge.LINE, 0, sizes, [(0, 1), (1, 2), (0, 1)])
            self.ask(beats, wide, judge.LINE, 0, sizes, [(0, 1), (5, 12), (0, 1)])
            # A little too little is given out, or a little too much is taken in.
            self.ask(beats, False, judge.LINE, 0, sizes, [(0, 1), told(Fraction(1, 3) - LITTLE), (0, 1)])
            self.ask(beats, False, judge.LINE, 0, sizes, [(0, 1), told(Fraction(1, 2) + LITTLE), (0, 1)])
            self.ask(beats, sizes in ("any", "more"), judge.LINE, 2, sizes, [(0, 1), (2, 1), (0, 1)])

    def test_a_mix_that_does_just_the_same_beats_nothing(self):
        book = [((2, 4), (6, 0)), ((2, 4), (6, 0)), ((1, 2), (3, 0)), ((3, 6), (9, 0))]
        for sizes in SIZES:
            for number in range(4):
                self.ask(beats, False, book, number, sizes, alone(book, number))
            for mix in ([(0, 1), (1, 1), (0, 1), (0, 1)], [(1, 3), (2, 3), (0, 1), (0, 1)],
                        [(0, 1), (0, 1), (1, 2), (1, 2)], [(0, 1), (0, 1), (2, 1), (0, 1)]):
                self.ask(beats, False, book, 0, sizes, mix)

    def test_a_fraction_below_nought_that_another_one_makes_up_for(self):
        book = [((1,), (1,)), ((2,), (1,))]
        for sizes in SIZES:
            self.ask(beats, False, book, 0, sizes, [(2, 1), (-1, 1)])

    def test_prices_for_the_rim(self):
        for sizes in SIZES:
            for times in (1, 7, Fraction(1, 10 ** 290)):
                prices = ([told(Fraction(3) * times)], [told(Fraction(2) * times)], (0, 1))
                self.ask(prices_rim, True, judge.LINE, 1, sizes, prices)
                self.ask(prices_rim, False, judge.LINE, 0, sizes, prices)
                self.ask(prices_rim, False, judge.LINE, 2, sizes, prices)
            # House 0 earns just what it pays, but house 1 earns more.
            self.ask(prices_rim, False, judge.LINE, 0, sizes, ([(1, 1)], [(1, 1)], (0, 1)))
            self.ask(prices_rim, sizes in ("one", "more"), judge.LINE, 0, sizes, ([(2, 1)], [(1, 1)], (2, 1)))
            self.ask(prices_rim, sizes in ("one", "less"), judge.LINE, 2, sizes, ([(1, 2)], [(1, 1)], (-4, 1)))

    def test_a_price_of_nought_shows_nothing(self):
        # At these prices houses 2 and 3 earn just what they pay, though house 3 is beaten.
        prices = ([(1, 1), (0, 1)], [(1, 1)], (0, 1))
        for sizes in SIZES:
            self.ask(prices_rim, False, judge.FLAT, 2, sizes, prices)
            self.ask(prices_rim, False, judge.FLAT, 3, sizes, prices)
            self.ask(prices_rim, True, judge.FLAT, 2, sizes, ([(2, 1), (1, 1)], [(6, 1)], (0, 1)))
            book = [((1,), (3, 1)), ((1,), (3, 2))]
            self.ask(prices_rim, False, book, 0, sizes, ([(3, 1)], [(1, 1), (0, 1)], (0, 1)))
            self.ask(prices_rim, False, book, 1, sizes, ([(3, 1)], [(1, 1), (0, 1)], (0, 1)))
            self.ask(prices_rim, False, book, 1, sizes, ([(0, 1)], [(0, 1), (0, 1)], (0, 1)))
            self.ask(prices_rim, True, book, 1, sizes, ([(5, 1)], [(1, 1), (1, 1)], (0, 1)))

    def test_prices_below_nought_that_others_make_up_for(self):
        for sizes in SIZES:
            book = [((1, 2), (1,)), ((1, 1), (1,))]
            self.ask(prices_rim, False, book, 0, sizes, ([(3, 1), (-1, 1)], [(1, 1)], (0, 1)))
            book = [((1,), (1, 2)), ((2,), (1, 1))]
            self.ask(prices_rim, False, book, 0, sizes, ([(1, 1)], [(3, 1), (-1, 1)], (0, 1)))


class OfWhatIsTold(Rims):
    def test_at_many_books(self):
        for book in judge.many_books():
            self.check_book(book)

    def test_somewhat_more_than_a_book_may_hold(self):
        self.check_book([((10 ** 10 + k, 5, 6, 7, 8 + k), (k + 1, 2 * k, 3, 1, 10 ** 10)) for k in range(18)])

    def test_the_books_that_are_tried_have_both(self):
        for sizes in SIZES:
            words = [on_rim(book, number, sizes)[0] for book in judge.some_books() for number in range(len(book))]
            self.assertGreater(words.count("rim"), 50)
            self.assertGreater(words.count("beaten"), 20)

    def shown_of(self, book):
        """For each house and size: whether it is beaten, and what shows it."""
        for sizes, number in itertools.product(SIZES, range(len(book))):
            word, shown = on_rim(book, number, sizes)
            yield word == "beaten", number, sizes, shown

    def test_never_true_of_what_is_broken(self):
        for book in judge.some_books()[::2]:
            for is_beaten, number, sizes, shown in self.shown_of(book):
                if is_beaten:
                    for mix in judge.broken(shown):
                        self.ask(beats, False, book, number, sizes, mix)
                else:
                    for prices in judge.broken_prices(shown, sizes):
                        self.ask(prices_rim, False, book, number, sizes, prices)

    def test_of_what_is_bent(self):
        answers = set()
        for book in judge.some_books():
            for is_beaten, number, sizes, shown in self.shown_of(book):
                if is_beaten:
                    for mix in judge.bent(shown):
                        expected = judge.beats(book, number, sizes, mix)
                        self.ask(beats, expected, book, number, sizes, mix)
                        self.assertFalse(expected and sizes == "one" and mix != shown)
                        answers.add(("beats", expected))
                else:
                    for prices in judge.bent_prices(shown):
                        expected = judge.prices_rim(book, number, sizes, prices)
                        self.ask(prices_rim, expected, book, number, sizes, prices)
                        answers.add(("rim", expected))
        self.assertEqual(len(answers), 4)

    def test_of_another_house_or_other_sizes(self):
        for book in judge.some_books():
            rims = {sizes: rim_of(book, sizes) for sizes in SIZES}
            for is_beaten, number, sizes, shown in self.shown_of(book):
                others = [(other, sizes) for other in range(len(book))] + [(number, other) for other in SIZES]
                for other, of_sizes in others:
                    if is_beaten:
                        expected = judge.beats(book, other, of_sizes, shown)
                        self.ask(beats, expected, book, other, of_sizes, shown)
                        # Never both: a house on the rim is beaten by no mix.
                        self.assertFalse(expected and other in rims[of_sizes])
                    else:
                        expected = judge.prices_rim(book, other, of_sizes, shown)
                        self.ask(prices_rim, expected, book, other, of_sizes, shown)
                        self.assertFalse(expected and other not in rims[of_sizes])

    def test_the_mix_of_the_house_alone(self):
        for book in judge.some_books():
            for sizes, number in itertools.product(SIZES, range(len(book))):
                self.ask(beats, False, book, number, sizes, alone(book, number))


class LeavingOut(Rims):
    """Houses that do not stand on the rim can be left out: all others keep share, growth and standing."""

    def standings(self, book, sizes):
        rim = rim_of(book, sizes)
        return {
            number: (share(book, number, sizes), growth(book, number, sizes), number in rim)
            for number in range(len(book))
        }

    def check(self, book, sizes, ahead, out):
        stay = [number for number in range(len(book)) if number not in out]
        behind = self.standings([book[number] for number in stay], sizes)
        self.assertEqual([behind[place] for place in range(len(stay))], [ahead[number] for number in stay])

    def test_at_many_books(self):
        tried = 0
        for book in judge.some_books():
            for sizes in SIZES:
                ahead = self.standings(book, sizes)
                behind_rim = [number for number in ahead if not ahead[number][2]]
                for out in [behind_rim, behind_rim[:1], behind_rim[1:], behind_rim[::2]]:
                    if out:
                        self.check(book, sizes, ahead, out)
                        tried += 1
        self.assertGreater(tried, 200)

    def test_sixteen_houses(self):
        for book in [book for book in judge.many_books() if len(book) == 16][::5]:
            for sizes in SIZES:
                ahead = self.standings(book, sizes)
                self.check(book, sizes, ahead, [number for number in ahead if not ahead[number][2]])


class Asked(Rims):
    def test_no_house_ahead_of_anything_else(self):
        for book in ([((1,), (1,))], judge.LINE, [((3, 4), (5, 0))] * 16):
            many = len(book)
            for number in (-1, -2, -many, -many - 1, many, many + 1, 10 ** 39, -10 ** 39):
                for sizes in SIZES:
                    with self.subTest(many=many, number=number, sizes=sizes):
                        self.assertRaises(NoHouse, on_rim, book, number, sizes)
                        for mix in (alone(book, 0), [], [(-1, 1)] * many):
                            self.assertRaises(NoHouse, beats, book, number, sizes, mix)
                        for kinds in ([], [(1, 1)], [(-1, 1)] * 2):
                            self.assertRaises(NoHouse, prices_rim, book, number, sizes, (kinds, kinds, (0, 1)))

    def test_told_lists_are_new_ones(self):
        for book in judge.some_books()[::3]:
            for sizes in SIZES:
                for number in range(len(book)):
                    word, shown = on_rim(book, number, sizes)
                    for one in [shown] if word == "beaten" else shown[:2]:
                        one.clear()
                    if word == "rim":
                        self.assertIsNot(shown[0], shown[1])
                    self.check_standing(book, number, sizes)


if __name__ == "__main__":
    unittest.main()
