import unittest
from itertools import product

from groupwalks.errors import TooMany
from groupwalks.found import least_round, least_way, longest_walk, rounds_many, ways_many
from groupwalks.groups import flips
from groupwalks.walks import is_round, is_way
from samples import (all_ways, by_steps, comes_to, even_swaps, every_round, grid, quaternions, rounds_by_trying,
                     steps_of, swaps, turning, ways_by_trying)


def small_groups():
    return [turning(1), turning(2), turning(3), turning(4), grid(2, 2), turning(5), turning(6), swaps(3)]


def larger_groups():
    return [turning(7), turning(8), grid(2, 4), grid(2, 2, 2), quaternions()]


def groups_of_twelve():
    return [turning(12), grid(2, 6), even_swaps(4)]


def first(walks):
    return walks[0] if walks else None


def longest_by_trying(group, steps):
    for size in reversed(range(len(group))):
        for walk in product(steps, repeat=size):
            if len(set(comes_to(group, walk))) == size + 1:
                return walk


class Point40TheLeastWalks(unittest.TestCase):
    def test_small_groups_by_all_steps(self):
        for group in small_groups():
            ways, rounds = all_ways(group), every_round(group)
            for steps in steps_of(group, 5):
                self.assertEqual(least_way(group, steps), first(by_steps(ways, steps)))
                self.assertEqual(least_round(group, steps), first(by_steps(rounds, steps)))

    def test_groups_of_seven_and_eight_things(self):
        for group in larger_groups():
            ways, rounds = all_ways(group), every_round(group)
            for steps in steps_of(group, 3) + [(1, 2, 3, 4), (2, 4, 5, 6), (1, 2, 3, 4, 5)]:
                self.assertEqual(least_way(group, steps), first(by_steps(ways, steps)))
                self.assertEqual(least_round(group, steps), first(by_steps(rounds, steps)))

    def test_groups_of_nine_to_eleven_things(self):
        for group, steps in ((turning(9), (2, 3, 6)), (grid(3, 3), (1, 3, 8)), (turning(10), (2, 5)), (flips(5), (2, 5)),
                             (flips(5), (5, 6)), (turning(11), (4, 9)), (turning(9), (3, 6))):
            self.assertEqual(least_way(group, steps), first(ways_by_trying(group, steps)))
            self.assertEqual(least_round(group, steps), first(rounds_by_trying(group, steps)))

    def test_groups_of_twelve_things(self):
        for group in groups_of_twelve():
            for steps in ((), (1,), (5,), (1, 4), (3, 5), (2, 3), (4, 6), (1, 11), (7, 8), (10, 11)):
                self.assertEqual(least_way(group, steps), first(ways_by_trying(group, steps)))
                self.assertEqual(least_round(group, steps), first(rounds_by_trying(group, steps)))

    def test_a_way_but_no_round(self):
        for group, steps in ((turning(6), (2, 3)), (turning(6), (3, 4)), (turning(12), (2, 3)), (turning(12), (4, 9)),
                             (grid(2, 6), (1, 8)), (even_swaps(4), (1, 3))):
            self.assertEqual(least_way(group, steps), ways_by_trying(group, steps)[0])
            self.assertEqual(rounds_by_trying(group, steps), [])
            self.assertIsNone(least_round(group, steps))

    def test_a_long_search_in_vain(self):
        self.assertEqual(rounds_by_trying(turning(12), (2, 3, 8)), [])
        self.assertIsNone(least_round(turning(12), (2, 3, 8)))

    def test_by_five_steps_of_twelve_things(self):
        for group in groups_of_twelve():
            for steps in ((1, 3, 5, 7, 11), (1, 4, 6, 8, 9), (2, 5, 6, 7, 10), (7, 8, 9, 10, 11)):
                way, walk = least_way(group, steps), least_round(group, steps)
                self.assertIs(is_way(group, steps, way), True)
                self.assertIs(is_round(group, steps, walk), True)
                self.assertLessEqual(way, walk[:-1])

    def test_by_hand(self):
        self.assertEqual(least_way(turning(4), (1, 2, 3)), (1, 1, 1))
        self.assertEqual(least_way(turning(4), (2, 3)), (2, 3, 2))
        self.assertEqual(least_way(turning(6), (2, 3)), (2, 2, 3, 2, 2))
        self.assertEqual(least_round(turning(4), (1, 2)), (1, 1, 1, 1))
        self.assertEqual(least_round(turning(4), (2, 3)), (3, 3, 3, 3))
        self.assertEqual(least_round(grid(2, 2), (1, 2)), (1, 2, 1, 2))
        self.assertEqual(least_round(turning(2), (1,)), (1, 1))
        self.assertEqual(least_way(turning(12), (1,)), (1,) * 11)
        self.assertEqual(least_round(turning(12), (5, 7)), (5,) * 12)
        self.assertIs(type(least_way(turning(4), (2, 3))), tuple)

    def test_groups_of_one_thing(self):
        self.assertEqual(least_way(turning(1), ()), ())
        self.assertIsNone(least_round(turning(1), ()))

    def test_no_steps(self):
        for group in small_groups()[1:] + groups_of_twelve():
            self.assertIsNone(least_way(group, ()))
            self.assertIsNone(least_round(group, ()))

    def test_steps_that_do_not_come_to_all(self):
        for group, steps in ((turning(6), (2, 4)), (turning(12), (2, 4, 6, 8, 10)), (swaps(3), (3, 4)),
                             (grid(2, 2, 2), (1, 2, 3)), (even_swaps(4), (1,))):
            self.assertIsNone(least_way(group, steps))
            self.assertIsNone(least_round(group, steps))

    def test_of_more_than_twelve_things(self):
        for group in (turning(13), turning(14), grid(2, 8), swaps(4), turning(24)):
            for steps in ((), (1,), (1, 2, 3, 4, 5)):
                for told in (least_way, least_round):
                    with self.assertRaises(TooMany):
                        told(group, steps)


class Point41HowMany(unittest.TestCase):
    def test_small_groups_by_all_steps(self):
        for group in small_groups():
            ways, rounds = all_ways(group), every_round(group)
            for steps in steps_of(group, 5):
                self.assertEqual(ways_many(group, steps), len(by_steps(ways, steps)))
                self.assertEqual(rounds_many(group, steps), len(by_steps(rounds, steps)))

    def test_groups_of_seven_and_eight_things(self):
        for group in larger_groups():
            ways, rounds = all_ways(group), every_round(group)
            for steps in steps_of(group, 2) + [(1, 2, 3), (2, 4, 5, 6), (1, 2, 3, 4, 5)]:
                self.assertEqual(ways_many(group, steps), len(by_steps(ways, steps)))
                self.assertEqual(rounds_many(group, steps), len(by_steps(rounds, steps)))

    def test_by_hand(self):
        self.assertEqual((ways_many(turning(1), ()), rounds_many(turning(1), ())), (1, 0))
        self.assertEqual((ways_many(turning(2), ()), rounds_many(turning(2), ())), (0, 0))
        self.assertEqual((ways_many(turning(2), (1,)), rounds_many(turning(2), (1,))), (1, 1))
        self.assertEqual((ways_many(turning(8), (3,)), rounds_many(turning(8), (3,))), (1, 1))
        self.assertEqual((ways_many(turning(8), (2, 4)), rounds_many(turning(8), (2, 4))), (0, 0))
        # By all things but 0 each order of these is a way and a round.
        self.assertEqual((ways_many(turning(6), (1, 2, 3, 4, 5)), rounds_many(swaps(3), (1, 2, 3, 4, 5))), (120, 120))
        # From a corner of a cube along its edges; each of its six rounds goes both ways.
        self.assertEqual((ways_many(grid(2, 2, 2), (1, 2, 4)), rounds_many(grid(2, 2, 2), (1, 2, 4))), (18, 12))
        self.assertIs(type(ways_many(turning(4), (1, 2))), int)
        self.assertIs(type(rounds_many(turning(4), ())), int)

    def test_of_more_than_eight_things(self):
        for group in (turning(9), grid(3, 3), turning(12), turning(13), swaps(4)):
            for steps in ((), (1,), (1, 2, 3, 4, 5)):
                for told in (ways_many, rounds_many):
                    with self.assertRaises(TooMany):
                        told(group, steps)


class Point42TheLongestWalk(unittest.TestCase):
    def test_small_groups_by_all_steps(self):
        for group in small_groups():
            for steps in steps_of(group, 3):
                self.assertEqual(longest_walk(group, steps), longest_by_trying(group, steps))

    def test_groups_of_seven_and_eight_things(self):
        for group in larger_groups():
            for steps in steps_of(group, 2) + [(1, 2, 3), (2, 4, 6), (3, 5, 6)]:
                self.assertEqual(longest_walk(group, steps), longest_by_trying(group, steps))

    def test_where_there_is_a_way_it_is_the_least_way(self):
        for group in small_groups() + larger_groups():
            for steps in steps_of(group, 4):
                way = least_way(group, steps)
                if way is not None:
                    self.assertEqual(longest_walk(group, steps), way)
                else:
                    self.assertLess(len(longest_walk(group, steps)), len(group) - 1)

    def test_by_hand(self):
        self.assertEqual(longest_walk(turning(1), ()), ())
        self.assertEqual(longest_walk(turning(8), ()), ())
        self.assertEqual(longest_walk(turning(2), (1,)), (1,))
        self.assertEqual(longest_walk(turning(8), (2,)), (2, 2, 2))
        self.assertEqual(longest_walk(turning(8), (4,)), (4,))
        self.assertEqual(longest_walk(turning(8), (2, 6)), (2, 2, 2))
        self.assertEqual(longest_walk(turning(8), (4, 6)), (4, 6, 4))
        self.assertEqual(longest_walk(swaps(3), (1,)), (1,))
        self.assertIs(type(longest_walk(turning(8), (2,))), tuple)

    def test_of_more_than_eight_things(self):
        for group in (turning(9), grid(3, 3), turning(12), swaps(4)):
            for steps in ((), (1,), (1, 2, 3, 4, 5)):
                with self.assertRaises(TooMany):
                    longest_walk(group, steps)


class Point1AskedAgain(unittest.TestCase):
    def test_the_same_is_told(self):
        for group, steps in ((turning(8), (2, 3)), (quaternions(), (2, 4)), (quaternions(), (1, 2)), (turning(1), ())):
            for told in (least_way, least_round, ways_many, rounds_many, longest_walk):
                self.assertEqual(told(group, steps), told(group, steps))
