import copy
import itertools
import random
import unittest

from nestdolls.dolls import led
from nestdolls.toil import floor, is_toil_paper, least_row, toil_of, toil_paper, unlike
from tests.helper import (
    ALL, ANYTHING, BEYOND, Sour, any_thing, best_rows, cases, graph, is_paper, plain_rows, price, some_prices, walk,
)


def inside(standing, doll):
    return {other for stack in standing if doll in stack for other in stack if other < doll}


def pairs(most):
    """All pairs of standings of at most so many dolls, and some of more."""
    for many in ALL:
        chance = random.Random(many)
        every = list(itertools.product(ALL[many], repeat=2))
        yield from every if many <= most else chance.sample(every, 300)


class Unlike(unittest.TestCase):
    def test_by_hand(self):
        self.assertEqual(unlike(((1,),), ((1,),)), [])
        self.assertEqual(unlike(((1,), (2,)), ((1, 2),)), [2])
        self.assertEqual(unlike(((1, 2, 3),), ((1, 3), (2,))), [2, 3])
        # The same is within 4 in both, though not in the same doll.
        self.assertEqual(unlike(((1, 4), (2,), (3,)), ((1, 4), (2, 3))), [3])
        self.assertEqual(unlike(standing=((1, 2), (3, 4)), other=((1, 2, 3, 4),)), [3, 4])

    def test_each_pair(self):
        for standing, other in pairs(5):
            told = unlike(standing, other)
            self.assertIs(type(told), list)
            dolls = range(1, sum(map(len, standing)) + 1)
            self.assertEqual(told, [doll for doll in dolls if inside(standing, doll) != inside(other, doll)])
            self.assertEqual(unlike(other, standing), told)

    def test_a_new_list_each_time(self):
        first = unlike(((1,), (2,)), ((1, 2),))
        first.append(7)
        self.assertEqual(unlike(((1,), (2,)), ((1, 2),)), [2])


class Floor(unittest.TestCase):
    def test_by_hand(self):
        self.assertEqual(floor(((1,),), ((1,),), (5,)), 0)
        self.assertEqual(floor(((1,), (2,)), ((1, 2),), (5, 7)), 7)
        self.assertEqual(floor(((1, 2),), ((1,), (2,)), (5, 7)), 7)
        # 2 is empty in the second one, 3 in none.
        self.assertEqual(floor(((1, 2, 3),), ((1, 3), (2,)), (1, 10, 100)), 210)
        self.assertEqual(floor(standing=((1, 3), (2,)), other=((1,), (2, 3)), prices=(1, 10, 100)), 200)

    def test_each_pair(self):
        for standing, other in pairs(4):
            many = sum(map(len, standing))
            for prices in some_prices(many):
                needed = 0
                for doll in range(1, many + 1):
                    here, there = inside(standing, doll), inside(other, doll)
                    if here != there:
                        needed += prices[doll - 1] * (2 if here and there else 1)
                self.assertEqual(floor(standing, other, prices), needed)
                self.assertEqual(floor(other, standing, prices), needed)


class ToilOf(unittest.TestCase):
    def test_by_hand(self):
        self.assertEqual(toil_of([], (1, 2)), 0)
        self.assertEqual(toil_of([("open", 2)], (3, 7)), 7)
        self.assertEqual(toil_of([("nest", 1, 2)], (3, 7)), 7)
        self.assertEqual(toil_of(row=[("open", 3), ("nest", 2, 3), ("open", 2)], prices=(1, 10, 100)), 210)

    def test_rows_of_all_lengths(self):
        for length in (1, 2, 10, 300):
            row, _ = walk(((1, 2), (3, 4), (5, 6)), 4, length, length)
            kept = list(row)
            for prices in some_prices(6):
                self.assertEqual(toil_of(row, prices), sum(price(move, prices) for move in row))
            self.assertEqual(row, kept)


class LeastRow(unittest.TestCase):
    def check(self, standing, other, spots, prices, best):
        told = least_row(standing, other, spots, prices)
        if standing not in best:
            self.assertIsNone(told, (standing, other, spots, prices))
            return
        toil, _, row = best[standing]
        self.assertIs(type(told), list)
        self.assertEqual(told, row, (standing, other, spots, prices))
        self.assertEqual(toil_of(told, prices), toil)

    def test_by_hand(self):
        self.assertEqual(least_row(((1,),), ((1,),), 1, (1,)), [])
        self.assertEqual(least_row(((1,), (2,)), ((1, 2),), 2, (1, 1)), [("nest", 1, 2)])
        self.assertIsNone(least_row(((1, 2, 3),), ((1, 3), (2,)), 2, (1, 1, 1)))
        self.assertEqual(
            least_row(standing=((1, 2, 3),), other=((1, 3), (2,)), spots=3, prices=(1, 1, 1)),
            [("open", 3), ("open", 2), ("nest", 1, 3)],
        )

    def test_of_like_toil_the_fewest_moves(self):
        prices = (1, 2, 3, 1, 1)
        standing, other = ((1,), (2,), (3,), (4, 5)), ((1,), (2, 4), (3,), (5,))
        longer = [("nest", 1, 2), ("open", 5), ("nest", 3, 5), ("open", 2), ("nest", 2, 4), ("open", 5)]
        self.assertEqual(led(standing, 4, longer), other)
        told = least_row(standing, other, 4, prices)
        self.assertEqual(told, [("nest", 1, 3), ("open", 5), ("nest", 2, 4), ("open", 3)])
        self.assertEqual(toil_of(told, prices), toil_of(longer, prices))
        for other in graph(5, 4):
            self.check(standing, other, 4, prices, best_rows(other, 4, prices))

    def test_of_like_toil_and_length_the_first(self):
        # 2 and 4 can be opened in any order, and stacked in any order.
        self.assertEqual(
            least_row(((1, 2), (3, 4)), ((1,), (2,), (3,), (4,)), 4, (1, 1, 1, 1)), [("open", 2), ("open", 4)]
        )
        self.assertEqual(
            least_row(((1,), (2,), (3,), (4,)), ((1, 2), (3, 4)), 4, (1, 1, 1, 1)), [("nest", 1, 2), ("nest", 3, 4)]
        )

    def test_small_ones_against_all_rows(self):
        for standing, spots in cases(4):
            rows = {}
            for row, end in plain_rows(standing, spots):
                rows.setdefault(end, []).append(row)
            for prices in some_prices(sum(map(len, standing))):
                for other in graph(len(prices), spots):
                    first = min(
                        rows.get(other, []), default=None,
                        key=lambda row: (sum(price(move, prices) for move in row), len(row), row),
                    )
                    self.assertEqual(least_row(standing, other, spots, prices), first)

    def test_against_rows_made_better(self):
        for many in ALL:
            chance = random.Random(many)
            for spots in range(1, many + 1):
                let = list(graph(many, spots))
                for prices in some_prices(many):
                    for other in chance.sample(let, min(len(let), 3)):
                        best = best_rows(other, spots, prices)
                        for standing in chance.sample(let, min(len(let), 20)):
                            self.check(standing, other, spots, prices, best)

    def test_none_just_where_no_row_leads(self):
        for spots in (1, 2, 3, 4, 5):
            for other in graph(5, spots):
                best = best_rows(other, spots, (1,) * 5)
                for standing in list(graph(5, spots))[::5]:
                    self.assertEqual(least_row(standing, other, spots, (1,) * 5) is None, standing not in best)

    def test_like_ones(self):
        for standing, spots in cases():
            many = sum(map(len, standing))
            self.assertEqual(least_row(standing, standing, spots, (1,) * many), [])

    def test_with_a_spot_for_each_doll_the_floor(self):
        for standing, other in pairs(4):
            many = sum(map(len, standing))
            for prices in some_prices(many)[-2:]:
                row = least_row(standing, other, many, prices)
                self.assertEqual(toil_of(row, prices), floor(standing, other, prices))

    def test_a_new_list_each_time(self):
        asked = (((1, 2),), ((1,), (2,)), 2, (1, 1))
        first = least_row(*asked)
        first.append("mine")
        self.assertEqual(least_row(*asked), [("open", 2)])

    def test_no_error_beyond_the_limits(self):
        self.assertEqual(least_row(((1, 2),), ((1,), (2,)), 3, (0, 0)), [("open", 2)])
        self.assertEqual(least_row(((1, 2),), ((1,), (2,)), 2, (101, 1000)), [("open", 2)])
        seven = ((1, 2, 3, 4, 5, 6, 7),)
        self.assertEqual(least_row(seven, ((1, 2, 3, 4, 5, 6), (7,)), 8, (1,) * 7), [("open", 7)])


class ToilPaper(unittest.TestCase):
    def test_by_hand(self):
        self.assertEqual(toil_paper(((1,),), 1, (5,)), ((((1,),), 0),))
        self.assertEqual(toil_paper(((1, 2),), 1, (5, 7)), ((((1, 2),), 0),))
        self.assertEqual(toil_paper(other=((1, 2),), spots=2, prices=(5, 7)), ((((1,), (2,)), 7), (((1, 2),), 0)))
        self.assertEqual(
            toil_paper(((1, 2, 3),), 2, (1, 10, 100)),
            ((((1,), (2, 3)), None), (((1, 2), (3,)), 100), (((1, 2, 3),), 0), (((1, 3), (2,)), None)),
        )

    def test_the_least_toil_from_each(self):
        for other, spots in itertools.chain(cases(4), list(cases())[300::17]):
            for prices in some_prices(sum(map(len, other))):
                told = toil_paper(other, spots, prices)
                best = best_rows(other, spots, prices)
                sought = [(here, best[here][0] if here in best else None) for here in graph(len(prices), spots)]
                self.assertEqual(told, tuple(sought))
                self.assertIs(is_toil_paper(other, spots, prices, told), True)
                self.assertEqual(toil_paper(other, spots, prices), told)

    def test_numbers_as_great_as_can_be(self):
        for other, spots in cases(4):
            prices = some_prices(sum(map(len, other)))[-1]
            told = toil_paper(other, spots, prices)
            for at, (here, number) in enumerate(told):
                if number is not None:
                    greater = told[:at] + ((here, number + 1),) + told[at + 1:]
                    self.assertIs(is_toil_paper(other, spots, prices, greater), False)

    def test_no_error_beyond_the_limits(self):
        paper = toil_paper(((1, 2),), 3, (0, 101))
        self.assertEqual(paper, ((((1,), (2,)), 101), (((1, 2),), 0)))
        self.assertIs(is_toil_paper(((1, 2),), 3, (0, 101), paper), True)
        seven = ((1, 2, 3, 4, 5, 6, 7),)
        self.assertIs(type(toil_paper(seven, 7, (1,) * 7)), tuple)
        self.assertIs(type(is_toil_paper(seven, 7, (1,) * 7, ())), bool)


def spoilt(paper):
    """Papers and other things that arise from a paper by one change."""
    yield from (list(paper), paper[::-1], paper[:-1], paper[1:], paper + paper[:1], (paper,), dict(paper), ())
    for by in (1, -1, 1000, -1000, -9999999999000):
        yield tuple((here, None if number is None else number + by) for here, number in paper)
    yield tuple((here, None) for here, _ in paper)
    yield tuple((here, 0) for here, _ in paper)
    yield tuple((here, -1 if number is None else number) for here, number in paper)
    for at, (here, number) in enumerate(paper):
        head, tail = paper[:at], paper[at + 1:]
        yield head + tail
        yield head + (paper[at],) * 2 + tail
        yield tail[:1] + head + (paper[at],) + tail[1:]
        for other in (0, 1, -1, 7, -7, 10 ** 12, -10 ** 12, None, True, False, "0", (), (0,), [0], 1.0, Sour()):
            yield head + ((here, other),) + tail
        if number is not None:
            for other in (number + 1, number - 1, float(number), str(number), (number,), number == 1):
                yield head + ((here, other),) + tail
        turned = tuple(tuple(True if doll == 1 else doll for doll in stack) for stack in here)
        floated = tuple(tuple(float(doll) for doll in stack) for stack in here)
        for wrong in (
            (turned, number), (floated, number), (list(here), number), (tuple(map(list, here)), number),
            (here[::-1], number), (here[1:], number), (here + ((9,),), number), [here, number], (number, here),
            (here,), (here, number, number), here, (), None, True, "", (None, number), (Sour(), number), Sour(),
            ((Sour(),), number), (((1, Sour()),), number),
        ):
            yield head + (wrong,) + tail


class IsToilPaper(unittest.TestCase):
    def check(self, other, spots, prices, thing):
        self.assertIs(is_toil_paper(other, spots, prices, thing), is_paper(other, spots, prices, thing))

    def test_spoilt(self):
        for other, spots in cases(4):
            for prices in some_prices(sum(map(len, other)))[-2:]:
                for thing in spoilt(toil_paper(other, spots, prices)):
                    self.check(other, spots, prices, thing)

    def test_great_ones_spoilt(self):
        for other, spots in ((ALL[6][0], 6), (ALL[6][100], 4), (ALL[5][20], 3)):
            prices = some_prices(sum(map(len, other)))[-1]
            for thing in list(spoilt(toil_paper(other, spots, prices)))[::37]:
                self.check(other, spots, prices, thing)

    def test_faults_one_by_one(self):
        asked = (((1, 2),), 2, (5, 7))
        apart, nested = ((1,), (2,)), ((1, 2),)
        for number, goal, sought in (
            (7, 0, True), (6, 0, True), (8, 0, False), (7, 1, False), (7, -1, False), (6, -1, True), (None, 0, False),
            (7, None, False), (None, None, False), (-50, 0, True), (-50, -57, True), (-50, -58, False),
            (True, 0, False), (7, False, False), (7.0, 0, False), ("7", 0, False),
        ):
            self.assertIs(is_toil_paper(*asked, ((apart, number), (nested, goal))), sought, (number, goal))
        self.assertIs(is_toil_paper(*asked, ((nested, 0), (apart, 7))), False)
        self.assertIs(is_toil_paper(*asked, ((((True,), (2,)), 7), (nested, 0))), False)
        self.assertIs(is_toil_paper(other=nested, spots=2, prices=(5, 7), thing=((apart, 7), (nested, 0))), True)

    def test_nones_lead_to_nones(self):
        tried = 0
        for other, spots in cases(5):
            prices = (1,) * sum(map(len, other))
            numbers = dict(toil_paper(other, spots, prices))
            for here, ahead in graph(len(prices), spots).items():
                if numbers[here] is None and ahead:
                    tried += 1
                    # None at its neighbours is more than any number that it allows them.
                    one = tuple({**numbers, here: 5}.items())
                    self.assertIs(is_toil_paper(other, spots, prices, one), False)
                    every = tuple((there, 5 if number is None else number) for there, number in numbers.items())
                    self.assertIs(is_toil_paper(other, spots, prices, every), True)
        self.assertGreater(tried, 100)

    def test_papers_to_other_goals(self):
        for spots in range(1, 5):
            let = list(graph(4, spots))
            for other, goal in itertools.product(let, repeat=2):
                self.check(other, spots, (1, 2, 3, 4), toil_paper(goal, spots, (1, 2, 3, 4)))

    def test_papers_of_other_spots_and_prices(self):
        for other, spots in cases(4):
            prices = some_prices(sum(map(len, other)))[-1]
            for dearer in (1, -1):
                changed = tuple(max(1, number + dearer) for number in prices)
                self.check(other, spots, prices, toil_paper(other, spots, changed))
            for otherwise in range(len(other), len(prices) + 1):
                self.check(other, spots, prices, toil_paper(other, otherwise, prices))

    def test_numbers_by_chance(self):
        chance = random.Random(11)
        for other, spots in cases(3):
            prices = some_prices(sum(map(len, other)))[-2]
            for _ in range(300):
                told = toil_paper(other, spots, prices)
                thing = tuple(
                    (here, number if number is None else number - chance.choice((0, 0, 0, 1, 2, 3, -1)))
                    for here, number in told
                )
                self.check(other, spots, prices, thing)

    def test_anything(self):
        chance = random.Random(8)
        things = ANYTHING + BEYOND + [any_thing(chance) for _ in range(3000)]
        for thing in things:
            self.assertIs(is_toil_paper(((1, 2),), 2, (1, 1), thing), False)
            self.assertIs(is_toil_paper(((1,),), 1, (1,), thing), False)

    def test_nothing_is_changed(self):
        thing = ([[[1], [2]], 7], [[[1, 2]], 0])
        kept = copy.deepcopy(thing)
        self.assertIs(is_toil_paper(((1, 2),), 2, (5, 7), thing), False)
        self.assertEqual(thing, kept)


if __name__ == "__main__":
    unittest.main()
