"""What is kept while houses come, go, are altered, and back [13], and whose it is [2, 3, 4]."""

import copy
import random
import unittest

import judge
from judge import SIZES
from rimhouse.errors import NoBook, NoHouse, NothingLeft, TooMany
from rimhouse.kept import Kept
from rimhouse.rims import rim_of
from rimhouse.shares import share

MOST = 10 ** 9
LOW, BEST, HIGH = judge.LINE


def plain_shares(houses, sizes):
    return [share(houses, number, sizes) for number in range(len(houses))]


def told_by(kept):
    return (kept.houses(), kept.shares(), kept.rim())


def holding(houses, sizes):
    """What is kept when these houses have come."""
    kept = Kept(len(houses[0][0]), len(houses[0][1]), sizes)
    for house in houses:
        kept.come(house)
    return kept


def no_houses_with(takes, gives):
    """Things that are no house with so many takes and gives."""
    good_takes, good_gives = (1,) * takes, (1,) * gives
    for many in range(7):
        if many != takes:
            yield ((1,) * many, good_gives)
        if many != gives:
            yield (good_takes, (1,) * many)
    for kind in range(takes):
        for one in (0, -1, MOST + 1, 10 ** 39, -10 ** 39, True):
            yield (good_takes[:kind] + (one,) + good_takes[kind + 1:], good_gives)
    for kind in range(gives):
        for one in (-1, MOST + 1, 10 ** 39, -10 ** 39, True):
            yield (good_takes, good_gives[:kind] + (one,) + good_gives[kind + 1:])
    yield (good_takes, (0,) * gives)
    if takes != gives:
        yield (good_gives, good_takes)
    # Things of other forms.
    yield from ((), (good_takes,), (good_takes, good_gives, good_gives), (list(good_takes), list(good_gives)),
                [good_takes, good_gives], None, (1, 1), (None, None))


class Plain:
    """The same, reckoned anew of the houses that are there; each has a mark by which it is known again."""

    def __init__(self, sizes):
        self.sizes = sizes
        self.marks = 0
        self.now = []
        self.past = []

    def shares(self):
        houses = [house for mark, house in self.now]
        return dict(zip([mark for mark, house in self.now], plain_shares(houses, self.sizes)))

    def turn_to(self, now):
        ahead = self.shares()
        self.past.append(self.now)
        self.now = now
        behind = self.shares()
        return [
            (number, ahead[mark], behind[mark])
            for number, (mark, house) in enumerate(now) if mark in ahead and ahead[mark] != behind[mark]
        ]

    def come(self, house):
        self.marks += 1
        changes = self.turn_to(self.now + [(self.marks, house)])
        return (self.shares()[self.marks], changes)

    def go(self, number):
        return self.turn_to([one for at, one in enumerate(self.now) if at != number])

    def alter(self, number, house):
        return self.turn_to([(mark, house if at == number else had) for at, (mark, had) in enumerate(self.now)])

    def back(self):
        self.now = self.past.pop()

    def told(self):
        houses = [house for mark, house in self.now]
        return (houses, plain_shares(houses, self.sizes), rim_of(houses, self.sizes) if houses else [])


class ByHand(unittest.TestCase):
    def test_at_first(self):
        for sizes in SIZES:
            self.assertEqual(told_by(Kept(1, 1, sizes)), ([], [], []))
            self.assertEqual(told_by(Kept(4, 3, sizes)), ([], [], []))

    def test_houses_come(self):
        kept = Kept(1, 1, "any")
        self.assertEqual(kept.come(LOW), ((1, 1), []))
        self.assertEqual(told_by(kept), ([LOW], [(1, 1)], [0]))
        self.assertEqual(kept.come(BEST), ((1, 1), [(0, (1, 1), (2, 3))]))
        self.assertEqual(told_by(kept), ([LOW, BEST], [(2, 3), (1, 1)], [1]))
        self.assertEqual(kept.come(HIGH), ((2, 3), []))
        self.assertEqual(told_by(kept), ([LOW, BEST, HIGH], [(2, 3), (1, 1), (2, 3)], [1]))

    def test_houses_go(self):
        kept = holding([LOW, BEST, HIGH], "any")
        self.assertEqual(kept.go(1), [(0, (2, 3), (1, 1)), (1, (2, 3), (1, 1))])
        self.assertEqual(told_by(kept), ([LOW, HIGH], [(1, 1), (1, 1)], [0, 1]))
        self.assertEqual(kept.go(0), [])
        self.assertEqual(told_by(kept), ([HIGH], [(1, 1)], [0]))
        self.assertEqual(kept.go(0), [])
        self.assertEqual(told_by(kept), ([], [], []))

    def test_numbers_behind_the_deed(self):
        kept = holding([BEST, BEST, LOW, HIGH], "any")
        self.assertEqual(kept.go(0), [])
        self.assertEqual(kept.go(0), [(0, (2, 3), (1, 1)), (1, (2, 3), (1, 1))])
        kept = holding([LOW, BEST, HIGH], "less")
        self.assertEqual(kept.go(1), [(0, (2, 3), (1, 1))])

    def test_houses_are_altered(self):
        kept = holding([LOW, BEST, HIGH], "any")
        self.assertEqual(kept.alter(0, ((1,), (6,))),
                         [(0, (2, 3), (1, 1)), (1, (1, 1), (1, 4)), (2, (2, 3), (1, 6))])
        self.assertEqual(told_by(kept), ([((1,), (6,)), BEST, HIGH], [(1, 1), (1, 4), (1, 6)], [0]))
        self.assertEqual(kept.alter(2, ((8,), (4,))), [(2, (1, 6), (1, 12))])
        # Nothing has changed by these two.
        self.assertEqual(kept.alter(1, BEST), [])
        self.assertEqual(kept.alter(0, ((2,), (12,))), [])
        self.assertEqual(kept.houses(), [((2,), (12,)), BEST, ((8,), (4,))])

    def test_back_to_the_very_beginning(self):
        kept = Kept(1, 1, "any")
        deeds = (
            lambda: kept.come(LOW), lambda: kept.come(BEST), lambda: kept.alter(0, HIGH), lambda: kept.alter(0, HIGH),
            lambda: kept.go(1), lambda: kept.go(0), lambda: kept.come(BEST), lambda: kept.alter(0, LOW),
        )
        ahead = []
        for deed in deeds:
            ahead.append(told_by(kept))
            deed()
        for told in ahead[::-1]:
            self.assertIsNone(kept.back())
            self.assertEqual(told_by(kept), told)
        for times in range(2):
            self.assertRaises(NothingLeft, kept.back)
            self.assertEqual(told_by(kept), ([], [], []))
        self.assertEqual(kept.come(LOW), ((1, 1), []))

    def test_back_is_no_deed(self):
        kept = holding([LOW, BEST], "one")
        kept.back()
        # Not the taking back is taken back, but the house that came first.
        kept.back()
        self.assertEqual(kept.houses(), [])
        self.assertRaises(NothingLeft, kept.back)

    def test_a_new_deed_behind_back(self):
        kept = holding([LOW, BEST], "any")
        kept.back()
        kept.come(HIGH)
        kept.back()
        self.assertEqual(kept.houses(), [LOW])
        kept.back()
        self.assertRaises(NothingLeft, kept.back)


class Refused(unittest.TestCase):
    def check(self, kept, error, deed, *things):
        ahead = told_by(kept)
        with self.subTest(houses=len(ahead[0]), things=things):
            self.assertRaises(error, deed, *things)
            self.assertEqual(told_by(kept), ahead)

    def test_what_is_no_house(self):
        for takes, gives in ((1, 1), (2, 3), (3, 2), (4, 4)):
            kept = Kept(takes, gives, "any")
            for thing in no_houses_with(takes, gives):
                self.check(kept, NoBook, kept.come, thing)
            kept.come(((1,) * takes, (1,) * gives))
            for thing in no_houses_with(takes, gives):
                self.check(kept, NoBook, kept.come, thing)
                self.check(kept, NoBook, kept.alter, 0, thing)
            kept.back()
            self.assertRaises(NothingLeft, kept.back)

    def test_the_bounds_of_amounts(self):
        for takes, gives in judge.ALL_COUNTS:
            kept = Kept(takes, gives, "more")
            good = (((1,) * takes, (0,) * (gives - 1) + (1,)), ((MOST,) * takes, (MOST,) * gives))
            for number, house in enumerate(good):
                kept.come(house)
                kept.alter(number, house)
            self.assertEqual(kept.houses(), list(good))

    def test_a_seventeenth_house(self):
        kept = holding([LOW] * 15 + [BEST], "any")
        for house in (LOW, BEST, HIGH):
            self.check(kept, TooMany, kept.come, house)
        for thing in no_houses_with(1, 1):
            self.check(kept, NoBook, kept.come, thing)
        # The house that came last is the deed that is taken back.
        kept.back()
        self.assertEqual(kept.houses(), [LOW] * 15)
        kept.come(HIGH)
        self.check(kept, TooMany, kept.come, HIGH)
        kept.go(3)
        self.assertEqual(kept.come(BEST)[0], (1, 1))

    def test_altering_where_sixteen_are(self):
        kept = holding([LOW] * 16, "any")
        self.assertEqual(kept.alter(15, BEST), [(number, (1, 1), (2, 3)) for number in range(15)])

    def test_no_house(self):
        for houses in ([], [LOW], [LOW, BEST, HIGH], [LOW] * 16):
            kept = Kept(1, 1, "any")
            for house in houses:
                kept.come(house)
            for number in judge.no_houses(houses):
                if number not in range(len(houses)):
                    self.check(kept, NoHouse, kept.go, number)
                    self.check(kept, NoHouse, kept.alter, number, LOW)
                    for thing in no_houses_with(1, 1):
                        self.check(kept, NoHouse, kept.alter, number, thing)

    def test_what_is_refused_is_no_deed(self):
        kept = holding([LOW, BEST], "any")
        self.assertRaises(NoBook, kept.come, ((1, 1), (1,)))
        self.assertRaises(NoHouse, kept.go, 2)
        self.assertRaises(NoHouse, kept.alter, -1, LOW)
        self.assertRaises(NoBook, kept.alter, 0, ((1,), (0,)))
        kept.back()
        self.assertEqual(kept.houses(), [LOW])
        kept.back()
        self.assertRaises(NothingLeft, kept.back)
        self.assertRaises(NothingLeft, kept.back)


class Whose(unittest.TestCase):
    def test_told_lists_are_the_askers_own(self):
        for sizes in SIZES:
            kept = holding([LOW, BEST, HIGH], sizes)
            ahead = copy.deepcopy(told_by(kept))
            for tell in (kept.houses, kept.shares, kept.rim):
                told = tell()
                told.append(7)
                told.reverse()
                told.clear()
            self.assertEqual(told_by(kept), ahead)
            for told in (kept.come(((1,), (90,)))[1], kept.alter(3, ((1,), (91,))), kept.go(3)):
                self.assertIs(type(told), list)
                told.append(7)
                told.reverse()
            self.assertEqual(told_by(kept), ahead)
            behind = kept.houses()
            kept.come(LOW)
            self.assertEqual(behind, ahead[0])
            for deed in range(4):
                kept.back()
            self.assertEqual(told_by(kept), ahead)

    def test_two_side_by_side(self):
        one, other = Kept(1, 1, "any"), Kept(1, 1, "one")
        one.come(LOW)
        self.assertEqual(told_by(other), ([], [], []))
        self.assertRaises(NothingLeft, other.back)
        other.come(HIGH)
        one.come(BEST)
        self.assertEqual((one.houses(), other.houses()), ([LOW, BEST], [HIGH]))
        self.assertEqual(one.alter(0, BEST), [(0, (2, 3), (1, 1))])
        other.back()
        self.assertRaises(NothingLeft, other.back)
        self.assertEqual(one.houses(), [BEST, BEST])
        one.back()
        self.assertEqual(told_by(one), ([LOW, BEST], [(2, 3), (1, 1)], [1]))


class ManyDeeds(unittest.TestCase):
    """Deeds drawn by fixed numbers: behind each one all is as it is asked plainly of those that are there."""

    def drawn_house(self, chance, takes, gives, houses):
        if houses and chance.randrange(4) == 0:
            return chance.choice(houses)
        way = chance.choice((judge.small, judge.small, judge.noughts, judge.great))
        return way(chance, 1, takes, gives)[0]

    def refused(self, chance, kept, plain, takes, gives):
        many = len(plain.now)
        number = chance.choice((-1, many, -many - 1, 10 ** 39))
        good = ((1,) * takes, (1,) * gives)
        bad = chance.choice(list(no_houses_with(takes, gives)))
        self.assertRaises(NoHouse, kept.go, number)
        self.assertRaises(NoHouse, kept.alter, number, chance.choice((good, bad)))
        self.assertRaises(NoBook, kept.come, bad)
        if many:
            self.assertRaises(NoBook, kept.alter, chance.randrange(many), bad)
        if many == 16:
            self.assertRaises(TooMany, kept.come, good)
        if not plain.past:
            self.assertRaises(NothingLeft, kept.back)

    def do(self, chance, kept, plain, takes, gives, more):
        many = len(plain.now)
        word = chance.choice(("come",) * more + ("go", "alter", "alter", "back", "refused"))
        house = self.drawn_house(chance, takes, gives, [house for mark, house in plain.now])
        if word == "come" and many < 16:
            self.assertEqual(kept.come(house), plain.come(house))
        elif word == "go" and many:
            number = chance.randrange(many)
            self.assertEqual(kept.go(number), plain.go(number))
        elif word == "alter" and many:
            number = chance.randrange(many)
            self.assertEqual(kept.alter(number, house), plain.alter(number, house))
        elif word == "back" and plain.past:
            self.assertIsNone(kept.back())
            plain.back()
        else:
            word = "refused"
            self.refused(chance, kept, plain, takes, gives)
        self.assertEqual(told_by(kept), plain.told())
        return word

    def run_deeds(self, seed, takes, gives, sizes, many, more):
        chance = random.Random(seed)
        kept, plain = Kept(takes, gives, sizes), Plain(sizes)
        words = {self.do(chance, kept, plain, takes, gives, more) for times in range(many)}
        self.assertEqual(words, {"come", "go", "alter", "back", "refused"})
        while plain.past:
            kept.back()
            plain.back()
            self.assertEqual((kept.houses(), kept.shares()), plain.told()[:2])
        self.assertRaises(NothingLeft, kept.back)
        self.assertEqual(told_by(kept), ([], [], []))

    def test_by_all_sizes_and_several_counts(self):
        for seed, (takes, gives) in enumerate(((1, 1), (1, 2), (2, 1), (2, 3), (3, 2), (4, 4))):
            for sizes in SIZES:
                with self.subTest(takes=takes, gives=gives, sizes=sizes):
                    self.run_deeds(seed, takes, gives, sizes, 60, 3)

    def test_some_hundreds_of_deeds(self):
        for sizes in SIZES:
            self.run_deeds(13, 2, 2, sizes, 300, 4)


if __name__ == "__main__":
    unittest.main()
