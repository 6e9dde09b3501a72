import copy
import random
import unittest

from nestdolls.dolls import is_standing, standings, within
from tests.helper import ALL, ANYTHING, BEYOND, SHOWN, any_thing


def spoilt(thing):
    """All that arises from nested tuples by one fault at one place."""
    yield list(thing)
    yield thing + ((),)
    yield ((),) + thing
    for at in range(len(thing)):
        head, stack, tail = thing[:at], thing[at], thing[at + 1:]
        yield head + tail
        yield head + (stack, stack) + tail
        yield tail + (stack,) + head
        if not isinstance(stack, tuple):
            continue
        yield head + (list(stack),) + tail
        yield head + ((),) + tail
        yield head + (stack[::-1],) + tail
        for place in range(len(stack)):
            lower, doll, upper = stack[:place], stack[place], stack[place + 1:]
            others = [(), (doll, doll), (None,), (str(doll),), ((doll,),), ([doll],)]
            others += [(doll + 1,), (doll - 1,)] if isinstance(doll, int) else []
            others += [(True,)] if doll == 1 else []
            for other in others:
                yield head + (lower + other + upper,) + tail


class IsStanding(unittest.TestCase):
    def check(self, thing):
        self.assertIs(is_standing(thing), repr(thing) in SHOWN, repr(thing)[:200])

    def test_every_standing_is_one(self):
        for many in ALL:
            for standing in ALL[many]:
                self.assertIs(is_standing(standing), True, standing)

    def test_by_name(self):
        self.assertIs(is_standing(thing=((1,),)), True)

    def test_spoilt_once(self):
        for many in ALL:
            for standing in ALL[many]:
                for thing in spoilt(standing):
                    self.check(thing)

    def test_spoilt_twice(self):
        for many in range(1, 5):
            for standing in ALL[many]:
                for once in spoilt(standing):
                    for twice in spoilt(once) if isinstance(once, tuple) else []:
                        self.check(twice)

    def test_faults_one_by_one(self):
        faults = [
            ((1,), (3,)), ((2,),), ((1, 1),), ((1,), (1, 2)), ((2, 1),), ((1, 3), (2, 3)), ((True,),),
            ((True, 2),), ((1,), (2, True)), [(1,)], ([1],), ((1,), ()), ((), (1,)), ((2,), (1,)), ((1, 3), (2,), (2,)),
            ((1, 2), (3, 5)), ((0, 1),), (), ((),), (1,), 1, ((1,), 2),
        ]
        for thing in faults:
            self.assertIs(is_standing(thing), False, thing)

    def test_seven_dolls_are_none(self):
        for thing in [
            ((1, 2, 3, 4, 5, 6, 7),), tuple((doll,) for doll in range(1, 8)), ((1, 2, 3), (4, 5, 6, 7)),
            ((1, 7), (2, 3, 4, 5, 6)),
        ]:
            self.assertIs(is_standing(thing), False, thing)

    def test_anything(self):
        for thing in ANYTHING:
            self.check(thing)
        chance = random.Random(4)
        for _ in range(20000):
            self.check(any_thing(chance))

    def test_beyond_anything(self):
        for thing in BEYOND:
            self.assertIs(is_standing(thing), False)

    def test_nothing_is_changed(self):
        thing = ([1, 2], [3], [[True]])
        kept = copy.deepcopy(thing)
        self.assertIs(is_standing(thing), False)
        self.assertEqual(repr(thing), repr(kept))


class Standings(unittest.TestCase):
    def test_by_hand(self):
        self.assertEqual(standings(1), [((1,),)])
        self.assertEqual(standings(2), [((1,), (2,)), ((1, 2),)])
        self.assertEqual(
            standings(3),
            [((1,), (2,), (3,)), ((1,), (2, 3)), ((1, 2), (3,)), ((1, 2, 3),), ((1, 3), (2,))],
        )

    def test_all_of_them_rising(self):
        for many in ALL:
            told = standings(many)
            self.assertIs(type(told), list)
            self.assertEqual(told, ALL[many])
            self.assertTrue(all(lower < upper for lower, upper in zip(told, told[1:])))
            self.assertTrue(all(is_standing(standing) for standing in told))

    def test_how_many(self):
        self.assertEqual([len(standings(many=many)) for many in range(1, 7)], [1, 2, 5, 15, 52, 203])

    def test_a_new_list_each_time(self):
        for many in ALL:
            first = standings(many)
            self.assertIsNot(first, standings(many))
            first.clear()
            self.assertEqual(standings(many), ALL[many])

    def test_beyond_the_limits_there_are_none_and_no_error(self):
        for many in (-1, 0, 7, 8):
            self.assertEqual(standings(many), [])


class Within(unittest.TestCase):
    def test_by_hand(self):
        standing = ((1, 3, 6), (2,), (4, 5))
        told = [within(standing, doll) for doll in range(1, 7)]
        self.assertEqual(told, [(), (), (1,), (), (4,), (1, 3)])
        self.assertEqual(within(standing=standing, doll=6), (1, 3))

    def test_each_doll_of_each_standing(self):
        for many in ALL:
            for standing in ALL[many]:
                for stack in standing:
                    for doll in stack:
                        told = within(standing, doll)
                        self.assertIs(type(told), tuple)
                        self.assertEqual(told, tuple(other for other in stack if other < doll))
                        self.assertEqual(within(standing, doll), told)


if __name__ == "__main__":
    unittest.main()
