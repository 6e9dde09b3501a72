import copy
import itertools
import random
import unittest
from fractions import Fraction

from nestdolls.coins import best_order, coin_paper, coin_shown, finds_in, least_wait, wait_of
from nestdolls.errors import NoOrder
from tests.helper import (
    ALL, ANYTHING, BEYOND, Sour, all_orders, any_thing, partings, shown, some_numbers, some_prices, wait,
)


def some_chances(many):
    """Chances alike and unlike, some of them 0, never all."""
    told = [(1,) * many, (100,) * many, tuple(range(1, many + 1)), tuple(range(many, 0, -1))]
    told += [tuple(1 if at == one else 0 for at in range(many)) for one in range(many)]
    told += [some_numbers(many, 0, 1, 3), some_numbers(many, 0, 4, 4), some_numbers(many, 0, 100, 5)]
    return [chances for chances in dict.fromkeys(told) if any(chances)]


def asked(most):
    """Standings with prices and chances: all standings of at most so many dolls, and some of more."""
    for many in ALL:
        chance = random.Random(many)
        every = list(itertools.product(some_prices(many), some_chances(many)))
        for standing in ALL[many]:
            for prices, chances in every if many <= most else chance.sample(every, 2):
                yield standing, prices, chances


class BestOrder(unittest.TestCase):
    def test_by_hand(self):
        self.assertEqual(best_order(((1,),), (5,), (3,)), (1,))
        self.assertEqual(best_order(((1, 2),), (1, 100), (100, 0)), (2, 1))
        self.assertEqual(best_order(((1,), (2,)), (1, 1), (1, 2)), (2, 1))
        # With all alike each order has the same wait, so the first one is told.
        self.assertEqual(best_order(((1,), (2,), (3,)), (1, 1, 1), (1, 1, 1)), (1, 2, 3))
        self.assertEqual(best_order(((1, 3), (2,)), (1, 1, 1), (1, 1, 1)), (2, 3, 1))
        # The great chance within 3 is worth the way to it.
        told = best_order(standing=((1, 3), (2,)), prices=(1, 1, 1), chances=(9, 1, 0))
        self.assertEqual(told, (3, 1, 2))

    def test_against_all_orders(self):
        for standing, prices, chances in asked(4):
            orders = all_orders(standing)
            least = min(wait(order, prices, chances) for order in orders)
            first = next(order for order in orders if wait(order, prices, chances) == least)
            told = best_order(standing, prices, chances)
            self.assertIs(type(told), tuple)
            self.assertEqual(told, first, (standing, prices, chances))
            self.assertEqual(least_wait(standing, prices, chances), least)
            self.assertEqual(wait_of(standing, prices, chances, told), least)
            fraction = Fraction(least, sum(chances))
            self.assertEqual(finds_in(standing, prices, chances), (fraction.numerator, fraction.denominator))
            self.assertEqual(best_order(standing, prices, chances), told)

    def test_by_name(self):
        named = {"standing": ((1,), (2,)), "prices": (2, 2), "chances": (1, 3)}
        self.assertEqual(best_order(**named), (2, 1))
        self.assertEqual(least_wait(**named), 10)
        self.assertEqual(finds_in(**named), (5, 2))
        self.assertEqual(wait_of(**named, order=(1, 2)), 14)
        self.assertEqual(coin_shown(**named, thing=coin_paper(**named)), 10)

    def test_no_error_beyond_the_limits(self):
        self.assertEqual(sorted(best_order(((1, 2), (3,)), (0, 101, 0), (101, 0, 1000))), [1, 2, 3])
        self.assertEqual(best_order(((1, 2),), (1, 1), (0, 0)), (2, 1))
        self.assertEqual(least_wait(((1, 2),), (1, 1), (0, 0)), 0)
        self.assertEqual(finds_in(((1, 2),), (1, 1), (0, 0)), (0, 1))
        self.assertEqual(finds_in(((1, 2),), (0, 0), (1, 1)), (0, 1))
        seven = tuple((doll,) for doll in range(1, 8))
        self.assertEqual(best_order(seven, (1,) * 7, (1,) * 7), (1, 2, 3, 4, 5, 6, 7))
        for standing in ALL[4]:
            paper = coin_paper(standing, (0, 0, 101, 0), (0, 101, 0, 0))
            self.assertIs(type(paper), tuple)
            coin_shown(standing, (0, 0, 101, 0), (0, 101, 0, 0), paper)


class FindsIn(unittest.TestCase):
    def test_by_hand(self):
        self.assertEqual(finds_in(((1,),), (5,), (3,)), (5, 1))
        self.assertEqual(finds_in(((1,), (2,)), (1, 1), (1, 1)), (3, 2))
        self.assertEqual(finds_in(((1, 2),), (1, 2), (0, 50)), (2, 1))
        self.assertEqual(finds_in(((1, 2),), (4, 2), (3, 6)), (10, 3))

    def test_whole_numbers_without_a_common_divisor(self):
        for standing, prices, chances in asked(2):
            told = finds_in(standing, prices, chances)
            self.assertIs(type(told), tuple)
            top, bottom = told
            self.assertEqual((type(top), type(bottom)), (int, int))
            self.assertGreaterEqual(bottom, 1)
            self.assertEqual(top * sum(chances), bottom * least_wait(standing, prices, chances))
            self.assertEqual(Fraction(top, bottom).denominator, bottom)


def spoilt_orders(order):
    """Things that arise from an order by one fault; some are orders all the same."""
    yield from (list(order), order[::-1], (order,), order + order, set(order), str(order), dict.fromkeys(order), ())
    for at, doll in enumerate(order):
        head, tail = order[:at], order[at + 1:]
        yield head + tail
        yield head + (doll, doll) + tail
        yield tail + (doll,) + head
        yield head + tail[:1] + (doll,) + tail[1:]
        for other in (True, False, None, 0, 7, -1, str(doll), (doll,), [doll], float(doll), Sour(), doll == 1):
            yield head + (other,) + tail
            yield head + (doll, other) + tail
        for other in order:
            yield head + (other,) + tail


class WaitOf(unittest.TestCase):
    def check(self, standing, prices, chances, thing, orders):
        if shown(thing) in orders:
            self.assertEqual(wait_of(standing, prices, chances, thing), wait(thing, prices, chances))
        else:
            with self.assertRaises(NoOrder):
                wait_of(standing, prices, chances, thing)

    def test_by_hand(self):
        self.assertEqual(wait_of(((1,),), (5,), (3,), (1,)), 15)
        self.assertEqual(wait_of(((1,), (2,)), (1, 10), (2, 3), (1, 2)), 35)
        self.assertEqual(wait_of(((1,), (2,)), (1, 10), (2, 3), (2, 1)), 52)
        self.assertEqual(wait_of(((1,), (2,)), (1, 10), (0, 3), (1, 2)), 33)
        standing = ((1, 3), (2,))
        for fault in (
            (1, 3, 2), (2, 1, 3), (3, 2), (3, 1), (3, 1, 1, 2), (3, 1, 2, 2), (3, True, 2), [3, 1, 2], (), None, 3, "312",
            (3, 1, 2, 4), (0, 3, 1, 2), (4, 1, 2), (3, 1.0, 2), ((3, 1), (2,)),
        ):
            with self.assertRaises(NoOrder):
                wait_of(standing, (1, 1, 1), (1, 1, 1), fault)
        for order in ((3, 1, 2), (3, 2, 1), (2, 3, 1)):
            self.assertEqual(wait_of(standing, (1, 1, 1), (1, 1, 1), order), 6)

    def test_all_orders_and_all_that_are_none(self):
        for many in range(1, 6):
            for standing in ALL[many]:
                prices, chances = some_numbers(many, 1, 100, 6), some_numbers(many, 0, 100, 7)
                orders = {repr(order) for order in all_orders(standing)}
                for thing in itertools.permutations(range(1, many + 1)):
                    self.check(standing, prices, chances, thing, orders)

    def test_spoilt(self):
        for many in ALL:
            for standing in ALL[many][::3] if many > 4 else ALL[many]:
                prices, chances = some_numbers(many, 1, 9, 6), some_numbers(many, 0, 9, 7)
                every = all_orders(standing)
                orders = {repr(order) for order in every}
                for order in every[:4] + every[-4:]:
                    for thing in spoilt_orders(order):
                        self.check(standing, prices, chances, thing, orders)

    def test_anything(self):
        chance = random.Random(2)
        things = ANYTHING + BEYOND + [any_thing(chance) for _ in range(5000)]
        for standing in (((1,),), ((1,), (2,)), ((1, 3), (2,))):
            many = sum(map(len, standing))
            orders = {repr(order) for order in all_orders(standing)}
            for thing in things:
                self.check(standing, (1,) * many, (1,) * many, thing, orders)

    def test_nothing_is_changed(self):
        thing = [2, [1]]
        kept = copy.deepcopy(thing)
        with self.assertRaises(NoOrder):
            wait_of(((1,), (2,)), (1, 1), (1, 1), thing)
        self.assertEqual(thing, kept)


def worth(dolls, prices, chances):
    return Fraction(sum(chances[doll - 1] for doll in dolls), sum(prices[doll - 1] for doll in dolls))


def shown_by(paper, prices, chances):
    """What lots for each stack show, None where one is not good."""
    ranked = []
    for place, lots in enumerate(paper):
        worths = [worth(lot, prices, chances) for lot in lots]
        if worths != sorted(worths, reverse=True):
            return None
        for at, lot in enumerate(lots):
            if any(worth(lot[:end], prices, chances) > worths[at] for end in range(1, len(lot))):
                return None
            ranked.append((-worths[at], place, at, lot))
    order = [doll for *_, lot in sorted(ranked) for doll in lot]
    return wait(order, prices, chances)


def all_papers(standing):
    """All ways to part the stacks into lots, good or not."""
    return list(itertools.product(*[partings(stack[::-1]) for stack in standing]))


def spoilt_papers(paper):
    yield from (
        list(paper), paper[::-1], paper[1:], paper + paper[:1], paper + ((),), (paper,), (), dict(enumerate(paper)),
        tuple(lot for lots in paper for lot in lots), tuple(tuple(doll for lot in lots for doll in lot) for lots in paper),
    )
    for at, lots in enumerate(paper):
        for other in spoilt_lots(lots):
            yield paper[:at] + (other,) + paper[at + 1:]


def spoilt_lots(lots):
    yield from (list(lots), lots[::-1], lots[1:], lots[:-1], lots + ((),), ((),) + lots, (lots,), (), None, 1, "", Sour())
    for at, lot in enumerate(lots):
        head, tail = lots[:at], lots[at + 1:]
        for other in (list(lot), lot[::-1], lot[1:], lot[:-1], (), None, True, lot[0], (lot,), Sour(), lot + lot[-1:]):
            yield head + (other,) + tail
        for place, doll in enumerate(lot):
            for other in (True, False, None, 0, doll + 1, doll - 1, str(doll), (doll,), [doll], float(doll), Sour()):
                yield head + (lot[:place] + (other,) + lot[place + 1:],) + tail


class CoinPaper(unittest.TestCase):
    def test_by_hand(self):
        self.assertEqual(coin_shown(((1,),), (5,), (3,), (((1,),),)), 15)
        self.assertEqual(coin_paper(((1,),), (5,), (3,)), (((1,),),))
        # 1 is worth more than 2, so both must be one lot.
        self.assertEqual(coin_paper(((1, 2),), (1, 1), (2, 1)), (((2, 1),),))
        self.assertIsNone(coin_shown(((1, 2),), (1, 1), (2, 1), (((2,), (1,)),)))
        # 2 is worth more than 1, so they must not be one lot.
        self.assertEqual(coin_paper(((1, 2),), (1, 1), (1, 2)), (((2,), (1,)),))
        self.assertIsNone(coin_shown(((1, 2),), (1, 1), (1, 2), (((2, 1),),)))
        # They are worth the same, so both ways are good.
        self.assertEqual(coin_shown(((1, 2),), (1, 1), (1, 1), (((2,), (1,)),)), 3)
        self.assertEqual(coin_shown(((1, 2),), (1, 1), (1, 1), (((2, 1),),)), 3)

    def test_told_ones_are_let_by(self):
        for standing, prices, chances in asked(5):
            told = coin_paper(standing, prices, chances)
            self.assertIs(type(told), tuple)
            self.assertIn(told, all_papers(standing))
            least = least_wait(standing, prices, chances)
            shown = coin_shown(standing, prices, chances, told)
            self.assertIs(type(shown), int)
            self.assertEqual(shown, least)
            self.assertEqual(shown_by(told, prices, chances), least)
            self.assertEqual(coin_paper(standing, prices, chances), told)

    def test_all_ways_to_part_the_stacks(self):
        for standing, prices, chances in asked(4):
            least = least_wait(standing, prices, chances)
            for paper in all_papers(standing):
                shown = shown_by(paper, prices, chances)
                self.assertEqual(coin_shown(standing, prices, chances, paper), shown)
                self.assertIn(shown, (None, least))

    def test_chances_by_chance(self):
        chance = random.Random(1)
        good = 0
        for _ in range(3000):
            standing = chance.choice(ALL[chance.randint(3, 6)])
            many = sum(map(len, standing))
            prices = tuple(chance.randint(1, chance.choice((1, 2, 3, 100))) for _ in range(many))
            chances = tuple(chance.randint(0, chance.choice((1, 2, 3, 100))) for _ in range(many - 1)) + (1,)
            paper = chance.choice(all_papers(standing))
            shown = shown_by(paper, prices, chances)
            good += shown is not None
            self.assertEqual(coin_shown(standing, prices, chances, paper), shown)
        self.assertGreater(good, 300)

    def test_spoilt(self):
        for many in range(1, 6):
            for standing in ALL[many][::2] if many > 4 else ALL[many]:
                for prices, chances in zip(some_prices(many)[-3:], some_chances(many)[-3:]):
                    right = {repr(paper): shown_by(paper, prices, chances) for paper in all_papers(standing)}
                    for thing in spoilt_papers(coin_paper(standing, prices, chances)):
                        self.assertEqual(coin_shown(standing, prices, chances, thing), right.get(shown(thing)))

    def test_of_other_standings(self):
        for many in range(1, 5):
            prices, chances = some_numbers(many, 1, 9, 8), some_numbers(many, 1, 9, 9)
            for standing, other in itertools.product(ALL[many], repeat=2):
                shown = coin_shown(standing, prices, chances, coin_paper(other, prices, chances))
                self.assertEqual(shown is None, standing != other)

    def test_anything(self):
        chance = random.Random(3)
        things = ANYTHING + BEYOND + [any_thing(chance) for _ in range(5000)]
        for standing in (((1,),), ((1, 2),), ((1,), (2,))):
            many = sum(map(len, standing))
            right = {repr(paper): shown_by(paper, (1,) * many, (1,) * many) for paper in all_papers(standing)}
            for thing in things:
                self.assertEqual(coin_shown(standing, (1,) * many, (1,) * many, thing), right.get(shown(thing)))

    def test_nothing_is_changed(self):
        thing = ([[2], [1]],)
        kept = copy.deepcopy(thing)
        self.assertIsNone(coin_shown(((1, 2),), (1, 1), (1, 2), thing))
        self.assertEqual(thing, kept)


if __name__ == "__main__":
    unittest.main()
