import copy
import itertools
import random
import unittest

from nestdolls.spots import comes_to, fence, fewest_spots, is_fence, least_dearest
from tests.helper import (
    ALL, ANYTHING, BEYOND, Sour, any_thing, cases, flood, graph, is_fencing, plain_rows, price, shown, some_prices,
    steps,
)


def some_pairs(most, seed):
    """All pairs of standings of at most so many dolls, and some of more."""
    for many in ALL:
        every = list(itertools.product(ALL[many], repeat=2))
        yield from every if many <= most else random.Random(f"{seed} {many}").sample(every, 150)


class ComesTo(unittest.TestCase):
    def test_by_hand(self):
        self.assertEqual(comes_to(((1,),), 1), [((1,),)])
        self.assertEqual(comes_to(((1, 2),), 1), [((1, 2),)])
        self.assertEqual(comes_to(((1, 2),), 2), [((1,), (2,)), ((1, 2),)])
        self.assertEqual(comes_to(standing=((1, 2, 3),), spots=2), [((1, 2), (3,)), ((1, 2, 3),)])
        self.assertEqual(comes_to(((1, 3), (2,)), 2), [((1, 3), (2,))])

    def test_each_standing_with_each_number_of_spots(self):
        for standing, spots in cases():
            told = comes_to(standing, spots)
            self.assertIs(type(told), list)
            self.assertEqual(told, sorted(flood(standing, spots)))
            self.assertIn(standing, told)
            self.assertTrue(all(lower < upper for lower, upper in zip(told, told[1:])))

    def test_with_a_spot_for_each_doll_to_all(self):
        for many in ALL:
            for standing in ALL[many][::7]:
                self.assertEqual(comes_to(standing, many), ALL[many])

    def test_a_new_list_each_time(self):
        first = comes_to(((1, 2),), 2)
        first.clear()
        self.assertEqual(comes_to(((1, 2),), 2), [((1,), (2,)), ((1, 2),)])

    def test_no_error_beyond_the_limits(self):
        self.assertEqual(comes_to(((1, 2),), 3), [((1,), (2,)), ((1, 2),)])
        self.assertEqual(len(comes_to(((1, 2, 3, 4, 5, 6, 7),), 7)), 877)


class FewestSpots(unittest.TestCase):
    def test_by_hand(self):
        self.assertEqual(fewest_spots(((1,),), ((1,),)), 1)
        self.assertEqual(fewest_spots(((1, 2),), ((1, 2),)), 1)
        self.assertEqual(fewest_spots(((1, 2),), ((1,), (2,))), 2)
        self.assertEqual(fewest_spots(standing=((1, 2, 3),), other=((1, 3), (2,))), 3)

    def test_each_pair(self):
        for standing, other in some_pairs(4, "fewest"):
            many = sum(map(len, standing))
            least = max(len(standing), len(other))
            sought = min(spots for spots in range(least, many + 1) if other in flood(standing, spots))
            told = fewest_spots(standing, other)
            self.assertIs(type(told), int)
            self.assertEqual(told, sought)
            self.assertEqual(fewest_spots(other, standing), sought)

    def test_like_ones(self):
        for many in ALL:
            for standing in ALL[many]:
                self.assertEqual(fewest_spots(standing, standing), len(standing))

    def test_with_fewer_none_comes(self):
        for standing, other in some_pairs(4, "fewer"):
            told = fewest_spots(standing, other)
            many = sum(map(len, standing))
            for spots in range(len(standing), many + 1):
                self.assertEqual(other in comes_to(standing, spots), spots >= told)

    def test_no_error_beyond_the_limits(self):
        self.assertEqual(fewest_spots(((1, 2, 3, 4, 5, 6, 7),), ((1, 2, 3, 4, 5, 6), (7,))), 2)


class Fence(unittest.TestCase):
    def test_by_hand(self):
        self.assertIsNone(fence(((1, 2),), ((1,), (2,)), 2))
        self.assertIsNone(fence(((1,), (2,)), ((1, 2),), 1))
        self.assertEqual(fence(((1, 2),), ((1,), (2,)), 1), (((1, 2),),))
        self.assertIs(is_fence(((1, 2, 3),), ((1, 3), (2,)), 2, fence(((1, 2, 3),), ((1, 3), (2,)), 2)), True)
        self.assertIsNone(fence(standing=((1, 2, 3),), other=((1, 3), (2,)), spots=3))

    def check(self, standing, other, spots):
        told = fence(standing, other, spots)
        if len(standing) > spots or other in flood(standing, spots):
            self.assertIsNone(told)
            return
        self.assertIs(type(told), tuple)
        self.assertTrue(is_fencing(standing, other, spots, told))
        self.assertIs(is_fence(standing, other, spots, told), True)
        self.assertEqual(fence(standing, other, spots), told)

    def test_each_pair_with_each_number_of_spots(self):
        for standing, other in some_pairs(4, "fence"):
            for spots in range(1, sum(map(len, standing)) + 1):
                self.check(standing, other, spots)

    def test_just_below_the_fewest_spots(self):
        for standing, other in some_pairs(3, "below"):
            spots = fewest_spots(standing, other)
            self.assertIsNone(fence(standing, other, spots))
            self.assertEqual(fence(standing, other, spots - 1) is None, len(standing) > spots - 1)

    def test_no_error_beyond_the_limits(self):
        self.assertIsNone(fence(((1, 2),), ((1,), (2,)), 0))
        self.assertIsNone(fence(((1, 2),), ((1,), (2,)), 3))
        self.assertIs(type(fence(((1, 2, 3, 4, 5, 6, 7),), ((1, 2, 3, 4, 5, 6), (7,)), 1)), tuple)


def apart(many, spots):
    """The standings in groups, none of which comes to another."""
    groups = {tuple(sorted(flood(standing, spots))) for standing in graph(many, spots)}
    return sorted(groups)


def spoilt(posts):
    """Things that are no fence, whatever the standings, as they are not of its form."""
    yield from (list(posts), (posts,), dict.fromkeys(posts), set(posts), str(posts), posts + posts)
    if len(posts) > 1:
        yield posts[::-1]
    for at, post in enumerate(posts):
        head, tail = posts[:at], posts[at + 1:]
        yield head + (post, post) + tail
        turned = tuple(tuple(True if doll == 1 else doll for doll in stack) for stack in post)
        floated = tuple(tuple(float(doll) for doll in stack) for stack in post)
        for wrong in (
            turned, floated, list(post), tuple(map(list, post)), post[1:], post + ((9,),), (), None, True, 0, "",
            (post,), Sour(), (Sour(),), ((1, Sour()),), repr(post),
        ):
            yield head + (wrong,) + tail
            yield head + (post, wrong) + tail


class IsFence(unittest.TestCase):
    def test_by_name(self):
        self.assertIs(is_fence(standing=((1, 2),), other=((1,), (2,)), spots=1, thing=(((1, 2),),)), True)

    def test_all_small_ones(self):
        for many in (1, 2, 3):
            for size in range(len(ALL[many]) + 1):
                for posts in itertools.combinations(ALL[many], size):
                    for standing, other in itertools.product(ALL[many], repeat=2):
                        for spots in range(1, many + 1):
                            told = is_fence(standing, other, spots, posts)
                            self.assertIs(told, is_fencing(standing, other, spots, posts))

    def test_groups_put_together(self):
        for many in (4, 5):
            for spots in range(1, many + 1):
                groups = apart(many, spots)
                chance = random.Random(spots)
                for _ in range(40):
                    chosen = chance.sample(groups, chance.randint(0, len(groups)))
                    posts = tuple(sorted(post for group in chosen for post in group))
                    standing, other = chance.choice(ALL[many]), chance.choice(ALL[many])
                    sought = standing in posts and other not in posts
                    self.assertIs(is_fence(standing, other, spots, posts), sought)

    def test_one_more_or_one_less(self):
        for standing, other in some_pairs(3, "more"):
            many = sum(map(len, standing))
            for spots in range(1, many + 1):
                told = fence(standing, other, spots) or ()
                for post in ALL[many][::3] if many > 4 else ALL[many]:
                    more = tuple(sorted({*told, post}))
                    less = tuple(here for here in told if here != post)
                    for posts in (more, less):
                        sought = is_fencing(standing, other, spots, posts)
                        self.assertIs(is_fence(standing, other, spots, posts), sought)

    def test_all_but_the_other_one(self):
        for many in (2, 3, 4):
            for other in ALL[many]:
                for spots in range(1, many + 1):
                    posts = tuple(here for here in graph(many, spots) if here != other)
                    for standing in ALL[many]:
                        sought = is_fencing(standing, other, spots, posts)
                        self.assertIs(is_fence(standing, other, spots, posts), sought)

    def test_of_other_standings_and_spots(self):
        chance = random.Random(3)
        for standing, other in some_pairs(3, "other"):
            many = sum(map(len, standing))
            for spots in range(1, many + 1):
                told = fence(standing, other, spots)
                if told is not None:
                    for _ in range(3):
                        asked = (chance.choice(ALL[many]), chance.choice(ALL[many]), chance.randint(1, many), told)
                        self.assertIs(is_fence(*asked), is_fencing(*asked))
                    self.assertIs(is_fence(other, standing, spots, told), False)
                    self.assertIs(is_fence(standing, standing, spots, told), False)

    def test_standings_of_more_or_fewer_dolls(self):
        for posts in ((((1,),), ((1, 2),)), (((1, 2),), ((1, 2, 3),))):
            self.assertIs(is_fence(((1, 2),), ((1,), (2,)), 1, posts), False)
        self.assertIs(is_fence(((1, 2),), ((1,), (2,)), 1, (((1, 2),),)), True)

    def test_more_stacks_than_spots(self):
        # It is shut, but has a standing that so few spots don't let by.
        posts = (((1,), (2, 3)), ((1, 2, 3),))
        self.assertIs(is_fence(((1, 2, 3),), ((1, 2), (3,)), 1, posts), False)
        self.assertIs(is_fence(((1, 2, 3),), ((1, 2), (3,)), 1, posts[1:]), True)
        self.assertIs(is_fence(((1,), (2,)), ((1, 2),), 1, (((1,), (2,)),)), False)

    def test_spoilt(self):
        for standing, other in some_pairs(3, "spoilt"):
            for spots in range(1, sum(map(len, standing)) + 1):
                told = fence(standing, other, spots)
                if told is not None:
                    for thing in list(spoilt(told))[:400]:
                        self.assertIs(is_fence(standing, other, spots, thing), False)

    def test_anything(self):
        chance = random.Random(6)
        for thing in ANYTHING + BEYOND + [any_thing(chance) for _ in range(5000)]:
            self.assertIs(is_fence(((1, 2),), ((1,), (2,)), 1, thing), shown(thing) == "(((1, 2),),)")
            self.assertIs(is_fence(((1,),), ((1,),), 1, thing), False)

    def test_nothing_is_changed(self):
        thing = ([[1, 2]], [[1], [2]])
        kept = copy.deepcopy(thing)
        self.assertIs(is_fence(((1, 2),), ((1,), (2,)), 1, thing), False)
        self.assertEqual(thing, kept)


def dearest_of(row, prices):
    return max((price(move, prices) for move in row), default=0)


def cheap_flood(standing, spots, prices, limit):
    """All standings to which one comes by moves of at most a price."""
    found = {standing}
    edge = [standing]
    while edge:
        here = edge.pop()
        for move, there in steps(here, spots).items():
            if price(move, prices) <= limit and there not in found:
                found.add(there)
                edge.append(there)
    return found


class LeastDearest(unittest.TestCase):
    def test_by_hand(self):
        self.assertEqual(least_dearest(((1,),), ((1,),), 1, (5,)), 0)
        self.assertEqual(least_dearest(((1, 2),), ((1,), (2,)), 2, (9, 5)), 5)
        self.assertIsNone(least_dearest(((1, 2, 3),), ((1, 3), (2,)), 2, (1, 1, 1)))
        self.assertEqual(least_dearest(standing=((1, 2, 3),), other=((1, 3), (2,)), spots=3, prices=(1, 20, 3)), 20)

    def test_small_ones_against_all_rows(self):
        for standing, spots in cases(4):
            rows = {}
            for row, end in plain_rows(standing, spots):
                rows.setdefault(end, []).append(row)
            for prices in some_prices(sum(map(len, standing))):
                for other in graph(len(prices), spots):
                    sought = min((dearest_of(row, prices) for row in rows.get(other, [])), default=None)
                    self.assertEqual(least_dearest(standing, other, spots, prices), sought)

    def test_against_floods(self):
        for many in (5, 6):
            for spots in range(1, many + 1):
                chance = random.Random(spots)
                for prices in some_prices(many):
                    standing = chance.choice(list(graph(many, spots)))
                    floods = [(limit, cheap_flood(standing, spots, prices, limit)) for limit in sorted({0, *prices})]
                    for other in list(graph(many, spots))[::9]:
                        sought = next((limit for limit, found in floods if other in found), None)
                        self.assertEqual(least_dearest(standing, other, spots, prices), sought)

    def test_like_ones(self):
        for standing, spots in cases():
            told = least_dearest(standing, standing, spots, (7,) * sum(map(len, standing)))
            self.assertIs(type(told), int)
            self.assertEqual(told, 0)

    def test_no_error_beyond_the_limits(self):
        self.assertEqual(least_dearest(((1, 2),), ((1,), (2,)), 3, (0, 101)), 101)
        self.assertEqual(least_dearest(((1, 2),), ((1,), (2,)), 3, (0, 0)), 0)


if __name__ == "__main__":
    unittest.main()
