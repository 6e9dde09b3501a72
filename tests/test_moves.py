import copy
import itertools
import random
import unittest

from nestdolls.dolls import behind, is_standing, led, moves
from nestdolls.errors import NoMove
from tests.helper import ALL, ANYTHING, BEYOND, any_thing, cases, steps, walk


class Moves(unittest.TestCase):
    def test_by_hand(self):
        self.assertEqual(moves(((1,),), 1), [])
        self.assertEqual(moves(((1, 2),), 1), [])
        self.assertEqual(moves(((1, 2),), 2), [("open", 2)])
        self.assertEqual(moves(((1,), (2,)), 2), [("nest", 1, 2)])
        standing = ((1, 4), (2,), (3, 5), (6,))
        nestings = [("nest", 2, 6), ("nest", 4, 6), ("nest", 5, 6)]
        self.assertEqual(moves(standing, 4), nestings)
        self.assertEqual(moves(standing=standing, spots=5), nestings + [("open", 4), ("open", 5)])

    def test_an_opening_needs_a_spot(self):
        for standing, spots in cases():
            opened = [move for move in moves(standing, spots) if move[0] == "open"]
            if spots == len(standing):
                self.assertEqual(opened, [])
            else:
                self.assertEqual(opened, sorted(("open", stack[-1]) for stack in standing if len(stack) > 1))

    def test_each_standing_with_each_number_of_spots(self):
        for standing, spots in cases():
            told = moves(standing, spots)
            self.assertIs(type(told), list)
            self.assertEqual(told, sorted(steps(standing, spots)), (standing, spots))
            self.assertTrue(all(lower < upper for lower, upper in zip(told, told[1:])))

    def test_a_new_list_each_time(self):
        for standing, spots in cases(4):
            first = moves(standing, spots)
            kept = list(first)
            self.assertIsNot(first, moves(standing, spots))
            first.append("mine")
            self.assertEqual(moves(standing, spots), kept)

    def test_no_error_beyond_the_limits(self):
        self.assertEqual(moves(((1, 2),), 3), [("open", 2)])
        self.assertEqual(moves(((1, 2, 3, 4, 5, 6, 7),), 8), [("open", 7)])


class Refusals(unittest.TestCase):
    def refuse(self, standing, spots, move):
        with self.assertRaises(NoMove) as caught:
            behind(standing, spots, move)
        self.assertIs(type(caught.exception.at), int)
        self.assertEqual(caught.exception.at, 0)


class Behind(Refusals):
    def test_by_hand(self):
        standing = ((1, 4), (2,), (3, 5), (6,))
        self.assertEqual(behind(standing, 5, ("open", 4)), ((1,), (2,), (3, 5), (4,), (6,)))
        self.assertEqual(behind(standing, 4, ("nest", 4, 6)), ((1, 4, 6), (2,), (3, 5)))
        self.assertEqual(behind(standing=standing, spots=4, move=("nest", 2, 6)), ((1, 4), (2, 6), (3, 5)))
        self.assertEqual(behind(((1, 2, 3),), 2, ("open", 3)), ((1, 2), (3,)))

    def test_each_told_move(self):
        for standing, spots in cases():
            for move, there in steps(standing, spots).items():
                told = behind(standing, spots, move)
                self.assertEqual(told, there, (standing, spots, move))
                self.assertIs(is_standing(told), True)
                self.assertLessEqual(len(told), spots)
                self.assertEqual(behind(standing, spots, move), told)

    def test_faults_one_by_one(self):
        standing = ((1, 3), (2,), (4, 6), (5,))
        faults = [
            ("open", 2), ("open", 1), ("open", 4), ("open", 7), ("open", 0), ("open", -1), ("nest", 2, 3),
            ("nest", 2, 6), ("nest", 5, 2), ("nest", 6, 5), ("nest", 1, 2), ("nest", 4, 5), ("nest", 5, 5),
            ("nest", 2, 4), ("nest", 7, 8), ["open", 3], ["nest", 2, 5], ("Open", 3), ("NEST", 2, 5), ("open ", 3),
            ("close", 3), ("open",), ("open", 3, 3), ("nest", 2), ("nest", 2, 5, 5), ("nest", (2,), 5), (),
            ("nest", 3, 2), ("open", True), ("nest", "2", 5), ("open", 2, 5), ("nest", 3),
        ]
        for move in faults:
            self.refuse(standing, 6, move)
        self.refuse(standing, 4, ("open", 3))

    def test_truths_are_no_dolls(self):
        self.assertEqual(behind(((1,), (2,)), 2, ("nest", 1, 2)), ((1, 2),))
        self.refuse(((1,), (2,)), 2, ("nest", True, 2))
        self.refuse(((1,), (2,)), 2, ("nest", False, 2))
        self.refuse(((1,), (2,)), 2, ("nest", 1, True))

    def test_every_move_that_is_none_of_the_told_ones(self):
        dolls = [*range(0, 6), True, None]
        tried = [(word, doll) for word in ("open", "nest", "") for doll in dolls]
        tried += [(word, doll, into) for word in ("nest", "open") for doll in dolls for into in dolls]
        for standing, spots in cases(4):
            told = {repr(move) for move in steps(standing, spots)}
            for move in tried:
                if repr(move) not in told:
                    self.refuse(standing, spots, move)

    def test_told_moves_spoilt(self):
        for standing, spots in cases(5):
            for move in steps(standing, spots):
                for spoilt in (list(move), move[:-1], move[1:], move + (1,), move + (None,), (move,), move[::-1]):
                    self.refuse(standing, spots, spoilt)

    def test_anything(self):
        for thing in ANYTHING + BEYOND:
            self.refuse(((1, 3), (4,)), 3, thing)
            self.refuse(((1,),), 1, thing)
        standing, spots = ((1, 3), (2,), (4,)), 4
        told = {repr(move) for move in steps(standing, spots)}
        chance = random.Random(5)
        for _ in range(5000):
            thing = any_thing(chance)
            if repr(thing) not in told:
                self.refuse(standing, spots, thing)

    def test_nothing_is_changed(self):
        move = ("nest", [1], 2)
        kept = copy.deepcopy(move)
        self.refuse(((1,), (2,)), 2, move)
        self.assertEqual(move, kept)


class Led(Refusals):
    def refuse_at(self, standing, spots, row, at):
        kept = list(row)
        with self.assertRaises(NoMove) as caught:
            led(standing, spots, row)
        self.assertIs(type(caught.exception.at), int)
        self.assertEqual(caught.exception.at, at)
        self.assertEqual(len(row), len(kept))
        self.assertTrue(all(thing is other for thing, other in zip(row, kept)))

    def test_the_empty_row(self):
        for standing, spots in cases():
            self.assertEqual(led(standing, spots, []), standing)

    def test_by_hand(self):
        row = [("open", 3), ("open", 2), ("nest", 1, 3), ("nest", 2, 4)]
        self.assertEqual(led(((1, 2, 3), (4,)), 4, row), ((1, 3), (2, 4)))
        self.assertEqual(led(standing=((1, 2, 3), (4,)), spots=4, row=row), ((1, 3), (2, 4)))
        self.refuse_at(((1, 2, 3), (4,)), 3, row, 1)

    def test_rows_of_all_lengths(self):
        for seed, length in itertools.product(range(4), (1, 2, 3, 10, 100, 299, 300, 310)):
            for start, spots in ((((1, 2),), 2), (((1, 2, 3), (4,)), 3), (((1, 2), (3, 4), (5, 6)), 4), (ALL[6][0], 6)):
                row, there = walk(start, spots, length, seed)
                kept = list(row)
                self.assertEqual(led(start, spots, row), there)
                self.assertEqual(led(start, spots, row), there)
                self.assertEqual(row, kept)

    def test_the_place_of_the_first_that_is_none(self):
        start, spots = ((1, 2), (3, 4), (5, 6)), 4
        for length in (1, 2, 7, 300):
            row, there = walk(start, spots, length, 9)
            for at in (0, length // 2, length - 1):
                for wrong in (("open", 1), ["open", 2], None, True, "open", ("nest", True, 2), ()):
                    self.refuse_at(start, spots, row[:at] + [wrong] + row[at + 1:], at)
                    self.refuse_at(start, spots, row[:at] + [wrong] * (length - at), at)
            self.refuse_at(start, spots, row + [None], length)

    def test_told_moves_spoilt_within_a_row(self):
        start, spots = ((1,), (2,), (3,)), 3
        row, there = walk(start, spots, 60, 2)
        for at, move in enumerate(row):
            self.refuse_at(start, spots, row[:at] + [list(move)] + row[at + 1:], at)

    def test_a_move_of_before_can_be_none_later(self):
        self.refuse_at(((1, 2),), 2, [("open", 2), ("open", 2)], 1)
        self.refuse_at(((1,), (2,)), 2, [("nest", 1, 2), ("nest", 1, 2), ("open", 2)], 1)
        self.refuse_at(((1, 2), (3, 4)), 3, [("open", 2), ("open", 4)], 1)

    def test_anything_in_a_row(self):
        for thing in ANYTHING + BEYOND:
            self.refuse_at(((1, 2),), 2, [thing, ("open", 2)], 0)
            self.refuse_at(((1, 2),), 2, [("open", 2), thing], 1)


if __name__ == "__main__":
    unittest.main()
