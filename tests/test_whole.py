"""What is promised over the whole program."""

import inspect
import itertools
import random
import unittest

from nestdolls import coins, dolls, spots as few, toil
from tests.helper import ALL, all_orders, cases, graph, some_numbers, some_prices, wait

NAMES = {
    dolls.is_standing: ["thing"], dolls.standings: ["many"], dolls.within: ["standing", "doll"],
    dolls.moves: ["standing", "spots"], dolls.behind: ["standing", "spots", "move"],
    dolls.led: ["standing", "spots", "row"], toil.unlike: ["standing", "other"],
    toil.floor: ["standing", "other", "prices"], toil.least_row: ["standing", "other", "spots", "prices"],
    toil.toil_of: ["row", "prices"], toil.toil_paper: ["other", "spots", "prices"],
    toil.is_toil_paper: ["other", "spots", "prices", "thing"], few.comes_to: ["standing", "spots"],
    few.fewest_spots: ["standing", "other"], few.fence: ["standing", "other", "spots"],
    few.is_fence: ["standing", "other", "spots", "thing"],
    few.least_dearest: ["standing", "other", "spots", "prices"],
    coins.best_order: ["standing", "prices", "chances"], coins.wait_of: ["standing", "prices", "chances", "order"],
    coins.least_wait: ["standing", "prices", "chances"], coins.finds_in: ["standing", "prices", "chances"],
    coins.coin_paper: ["standing", "prices", "chances"],
    coins.coin_shown: ["standing", "prices", "chances", "thing"],
}


def toil_between(standing, other, spots, prices):
    row = toil.least_row(standing, other, spots, prices)
    return None if row is None else toil.toil_of(row, prices)


def gone_back(standing, spots, row):
    """The row that undoes another one, from its end to its beginning."""
    back = []
    for move in row:
        inner = dolls.within(standing, move[1])
        back.append(("nest", inner[-1], move[1]) if move[0] == "open" else ("open", move[2]))
        standing = dolls.behind(standing, spots, move)
    return back[::-1]


def asked(seed, every):
    """Some standings with another one, all numbers of spots and some prices."""
    chance = random.Random(seed)
    for standing, spots in list(cases())[::every]:
        prices = chance.choice(some_prices(sum(map(len, standing))))
        yield standing, chance.choice(list(graph(len(prices), spots))), spots, prices


class Interface(unittest.TestCase):
    def test_names_of_arguments(self):
        for function, names in NAMES.items():
            self.assertEqual(list(inspect.signature(function).parameters), names, function)


class Toil(unittest.TestCase):
    def test_told_rows_lead_there_for_what_the_paper_says(self):
        for standing, other, spots, prices in asked(1, 3):
            row = toil.least_row(standing, other, spots, prices)
            number = dict(toil.toil_paper(other, spots, prices))[standing]
            if row is None:
                self.assertIsNone(number)
            else:
                self.assertEqual(dolls.led(standing, spots, row), other)
                self.assertEqual(toil.toil_of(row, prices), number)
                self.assertGreaterEqual(number, toil.floor(standing, other, prices))

    def test_there_and_back(self):
        for standing, other, spots, prices in asked(2, 3):
            there = toil_between(standing, other, spots, prices)
            self.assertEqual(toil_between(other, standing, spots, prices), there)
            self.assertEqual(few.fewest_spots(standing, other), few.fewest_spots(other, standing))
            dearest = few.least_dearest(standing, other, spots, prices)
            self.assertEqual(few.least_dearest(other, standing, spots, prices), dearest)

    def test_a_row_gone_back(self):
        for standing, other, spots, prices in asked(3, 3):
            row = toil.least_row(standing, other, spots, prices)
            if row is not None:
                back = gone_back(standing, spots, row)
                self.assertEqual(dolls.led(other, spots, back), standing)
                self.assertEqual(toil.toil_of(back, prices), toil.toil_of(row, prices))

    def test_over_a_third_one_no_less(self):
        chance = random.Random(4)
        for many in range(1, 7):
            for spots in range(1, many + 1):
                let = list(graph(many, spots))
                prices = chance.choice(some_prices(many))
                for third in chance.sample(let, min(len(let), 3)):
                    to_third = dict(toil.toil_paper(third, spots, prices))
                    other = chance.choice(let)
                    to_other = dict(toil.toil_paper(other, spots, prices))
                    for standing in let:
                        if to_third[standing] is not None and to_other[third] is not None:
                            self.assertLessEqual(to_other[standing], to_third[standing] + to_other[third])

    def test_with_more_spots_no_more(self):
        for standing, other, fewer, prices in asked(5, 3):
            for spots in range(fewer, len(prices)):
                before = toil_between(standing, other, spots, prices)
                if before is not None:
                    self.assertLessEqual(toil_between(standing, other, spots + 1, prices), before)
                    dearest = few.least_dearest(standing, other, spots, prices)
                    self.assertLessEqual(few.least_dearest(standing, other, spots + 1, prices), dearest)
                self.assertLessEqual(set(few.comes_to(standing, spots)), set(few.comes_to(standing, spots + 1)))

    def test_with_a_spot_for_each_doll_just_the_floor(self):
        for standing, other, _, prices in asked(6, 2):
            number = toil_between(standing, other, len(prices), prices)
            self.assertEqual(number, toil.floor(standing, other, prices))


class Spots(unittest.TestCase):
    def test_none_comes_with_fewer_as_the_fence_shows(self):
        for standing, other, spots, prices in asked(7, 3):
            fewest = few.fewest_spots(standing, other)
            comes = spots >= fewest
            self.assertEqual(other in few.comes_to(standing, spots), comes)
            self.assertEqual(toil.least_row(standing, other, spots, prices) is not None, comes)
            self.assertEqual(few.least_dearest(standing, other, spots, prices) is not None, comes)
            told = few.fence(standing, other, spots)
            self.assertEqual(told is None, comes)
            if not comes:
                self.assertIs(few.is_fence(standing, other, spots, told), True)

    def test_no_told_row_is_cheaper_than_the_dearest(self):
        for standing, other, spots, prices in asked(8, 3):
            row = toil.least_row(standing, other, spots, prices)
            if row is not None:
                greatest = max((toil.toil_of([move], prices) for move in row), default=0)
                self.assertLessEqual(few.least_dearest(standing, other, spots, prices), greatest)


class Coins(unittest.TestCase):
    def test_no_order_has_less_wait(self):
        for many in range(1, 7):
            for seed, standing in enumerate(ALL[many]):
                prices, chances = some_numbers(many, 1, 10, seed), some_numbers(many, 1, 10, seed + 0.5)
                told = coins.best_order(standing, prices, chances)
                least = coins.wait_of(standing, prices, chances, told)
                paper = coins.coin_paper(standing, prices, chances)
                self.assertEqual(coins.coin_shown(standing, prices, chances, paper), least)
                for order in itertools.islice(all_orders(standing), 60):
                    self.assertGreaterEqual(coins.wait_of(standing, prices, chances, order), least)
                    self.assertEqual(coins.wait_of(standing, prices, chances, order), wait(order, prices, chances))


class Unchanged(unittest.TestCase):
    def test_the_same_by_names_and_by_places_and_asked_again(self):
        worth = {
            "thing": ((1, 2), (3,)), "many": 3, "standing": ((1, 2), (3,)), "doll": 2, "spots": 3, "move": ("open", 2),
            "row": [("open", 2)], "other": ((1, 3), (2,)), "prices": (1, 2, 3), "order": (2, 1, 3), "chances": (3, 0, 1),
        }
        kept = repr(worth)
        for function, names in NAMES.items():
            by_places = function(*[worth[name] for name in names])
            by_names = function(**{name: worth[name] for name in names})
            self.assertEqual(repr(by_places), repr(by_names))
            if isinstance(by_places, list):
                by_places.clear()
                self.assertEqual(repr(function(*[worth[name] for name in names])), repr(by_names))
            self.assertEqual(repr(worth), kept)


if __name__ == "__main__":
    unittest.main()
