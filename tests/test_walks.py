import unittest
from itertools import product

from groupwalks.groups import along
from groupwalks.walks import back, begun_at, is_round, is_way, places, reaches, undone_steps
from samples import (comes_to, even_swaps, grid, is_among, one_thing_otherwise, quaternions, rounds_by_trying, samples,
                     steps_of, swaps, turning, values_of_all_kinds, ways_by_trying)


def small_groups():
    return [turning(1), turning(2), turning(3), turning(4), grid(2, 2), turning(5), swaps(3)]


def step_choices(group):
    some = ((), (1,), (1, 2), (1, 3), (2, 5), (3, 4))
    return [steps for steps in steps_of(group, 2) if len(group) < 6 or steps in some]


class Point30Places(unittest.TestCase):
    def test_of_no_things(self):
        for group in samples():
            self.assertEqual(places(group, ()), (0,))

    def test_by_hand(self):
        self.assertEqual(places(turning(4), (1, 1, 3, 0, 2)), (0, 1, 2, 1, 1, 3))
        self.assertEqual(places(turning(1), (0, 0)), (0, 0, 0))
        self.assertEqual(places(swaps(3), (1, 2, 4)), (0, 1, 4, 3))
        self.assertEqual(places(swaps(3), (2, 1, 3)), (0, 2, 3, 4))

    def test_of_sixty_things(self):
        for group in samples():
            walk = tuple((5 * k * k + k + 1) % len(group) for k in range(60))
            told = places(group, walk)
            self.assertIsInstance(told, tuple)
            self.assertEqual(list(told), comes_to(group, walk))


class Point31WaysAndRounds(unittest.TestCase):
    def test_all_walks_of_small_groups(self):
        for group in small_groups():
            for steps in step_choices(group):
                ways, rounds = ways_by_trying(group, steps), rounds_by_trying(group, steps)
                for size in range(len(group) + 2):
                    for walk in product(steps, repeat=size):
                        self.assertIs(is_way(group, steps, walk), walk in ways)
                        self.assertIs(is_round(group, steps, walk), walk in rounds)

    def test_with_one_thing_otherwise(self):
        for group in small_groups():
            for steps in step_choices(group):
                ways, rounds = ways_by_trying(group, steps), rounds_by_trying(group, steps)
                others = (-1, *range(len(group) + 1), True, False, None, "1", [1], (1,), {})
                for way in ways:
                    for other in one_thing_otherwise(way, others):
                        self.assertIs(is_way(group, steps, other), is_among(other, ways))
                for walk in rounds:
                    for other in one_thing_otherwise(walk, others):
                        self.assertIs(is_round(group, steps, other), is_among(other, rounds))

    def test_by_hand(self):
        self.assertIs(is_way(turning(3), (1,), (1, 1)), True)
        self.assertIs(is_round(turning(3), (1,), (1, 1, 1)), True)
        self.assertIs(is_round(turning(2), (1,), (1, 1)), True)
        self.assertIs(is_way(swaps(3), (1, 2), (1, 2, 1, 2, 1)), True)
        self.assertIs(is_round(swaps(3), (1, 2), (1, 2, 1, 2, 1, 2)), True)
        self.assertIs(is_round(swaps(3), (1, 2), (1, 2, 1, 2, 1)), False)
        self.assertIs(is_way(swaps(3), (1, 2), (1, 2, 1, 2, 1, 2)), False)

    def test_of_24_things(self):
        clock_round = (5,) * 24
        self.assertIs(is_round(turning(24), (5, 7), clock_round), True)
        self.assertIs(is_way(turning(24), (5, 7), clock_round[1:]), True)
        self.assertIs(is_round(turning(24), (6,), (6,) * 24), False)
        self.assertIs(is_way(turning(24), (5, 7), clock_round), False)
        self.assertIs(is_round(turning(24), (5, 7), clock_round + clock_round), False)

    def test_things_that_are_no_steps(self):
        self.assertIs(is_way(turning(4), (1,), (1, 1, 1)), True)
        self.assertIs(is_way(turning(4), (1,), (3, 3, 3)), False)
        self.assertIs(is_round(turning(4), (3,), (1, 1, 1, 1)), False)
        self.assertIs(is_way(turning(4), (1, 2), (2, 3, 2)), False)

    def test_that_a_round_must_come_home(self):
        # Each is a way with one step more, which ends elsewhere.
        self.assertIs(is_round(turning(4), (1, 2), (1, 1, 1, 2)), False)
        self.assertIs(is_round(grid(2, 2), (1, 2), (1, 2, 1, 1)), False)
        # Home in between, and home at the end.
        self.assertIs(is_round(turning(4), (1, 3), (1, 3, 1, 3)), False)

    def test_a_group_of_one_thing(self):
        self.assertIs(is_way(turning(1), (), ()), True)
        for walk in ((), (0,), (0, 0), [], None):
            self.assertIs(is_round(turning(1), (), walk), False)
        for walk in ((0,), [], None, "", {}):
            self.assertIs(is_way(turning(1), (), walk), False)

    def test_no_steps(self):
        for group in small_groups()[1:]:
            for walk in ((), (0,), (1,), (1,) * (len(group) - 1), (1,) * len(group)):
                self.assertIs(is_way(group, (), walk), False)
                self.assertIs(is_round(group, (), walk), False)

    def test_lists_and_truths(self):
        for walk in ([1, 1], [True, True], (True, 1), (1, True), (True, True), "11", {0: 1, 1: 1}):
            self.assertIs(is_way(turning(3), (1,), walk), False)
            self.assertIs(is_round(turning(2), (1,), walk), False)

    def test_of_anything(self):
        for group, steps in ((turning(1), ()), (turning(2), (1,)), (turning(3), (1, 2)), (swaps(3), (1, 2, 3, 4, 5))):
            for thing in values_of_all_kinds():
                way_of_one = len(group) == 1 and repr(thing) == "()"
                way_of_two = len(group) == 2 and repr(thing) == "(1,)"
                self.assertIs(is_way(group, steps, thing), way_of_one or way_of_two)
                self.assertIs(is_round(group, steps, thing), False)
                for size in range(1, len(group) + 1):
                    if repr(thing) != "1":
                        self.assertIs(is_way(group, steps, (thing,) * size), False)
                        self.assertIs(is_round(group, steps, (thing,) * size), False)

    def test_steps_that_reach_all(self):
        for group, steps in ((turning(1), ()), (turning(2), (1,)), (turning(6), (2, 3)), (turning(24), (23,)),
                             (turning(6), (5,)), (swaps(3), (1, 3)), (grid(2, 2, 2), (1, 2, 4)), (swaps(4), (1, 9)),
                             (quaternions(), (2, 4)), (turning(8), (1, 2, 3, 4, 5))):
            self.assertIs(reaches(group, steps), True)

    def test_steps_that_do_not_reach_all(self):
        for group, steps in ((turning(2), ()), (turning(6), (2, 4)), (turning(24), (2, 12, 22)), (turning(6), (3,)),
                             (swaps(3), (3, 4)), (swaps(3), (1,)), (grid(2, 2, 2), (1, 2, 3)), (swaps(4), (1, 2)),
                             (quaternions(), (1, 2)), (even_swaps(4), (1,))):
            self.assertIs(reaches(group, steps), False)

    def test_reaching_as_long_walks_tell(self):
        for group in small_groups() + [quaternions(), even_swaps(4)]:
            for steps in steps_of(group, 2):
                come_to = {0}
                for _ in group:
                    come_to |= {group[place][step] for place in come_to for step in steps}
                self.assertIs(reaches(group, steps), len(come_to) == len(group))


class Point32BegunElsewhereAndFromBehind(unittest.TestCase):
    def test_begun_at_each_of_its_things(self):
        self.assertEqual(begun_at((1, 2, 3, 4), 0), (1, 2, 3, 4))
        self.assertEqual(begun_at((1, 2, 3, 4), 1), (2, 3, 4, 1))
        self.assertEqual(begun_at((1, 2, 3, 4), 3), (4, 1, 2, 3))
        self.assertEqual(begun_at((5,), 0), (5,))

    def test_begun_in_sixty_things(self):
        walk = tuple(k % 23 for k in range(60))
        for k in range(60):
            self.assertEqual(begun_at(walk, k), tuple(walk[(k + i) % 60] for i in range(60)))

    def test_a_round_begun_anywhere_is_a_round(self):
        for group in small_groups():
            for steps in step_choices(group):
                for walk in rounds_by_trying(group, steps):
                    for k in range(len(walk)):
                        self.assertIs(is_round(group, steps, begun_at(walk, k)), True)

    def test_from_behind(self):
        self.assertEqual(back(turning(5), ()), ())
        self.assertEqual(back(turning(5), (1, 2, 0, 4)), (1, 0, 3, 4))
        self.assertEqual(back(swaps(3), (1, 3, 3, 4)), (3, 4, 4, 1))
        for group in samples():
            walk = tuple((3 * k * k + 2 * k) % len(group) for k in range(60))
            behind = back(group, walk)
            self.assertIsInstance(behind, tuple)
            self.assertEqual([group[a][b] for a, b in zip(walk, reversed(behind))], [0] * 60)
            self.assertEqual(along(group, walk + behind), 0)
            self.assertEqual(back(group, behind), walk)

    def test_the_undone_steps_are_rising(self):
        self.assertEqual(undone_steps(turning(9), ()), ())
        self.assertEqual(undone_steps(turning(9), (1, 2, 5)), (4, 7, 8))
        self.assertEqual(undone_steps(turning(2), (1,)), (1,))
        self.assertEqual(undone_steps(swaps(3), (1, 3, 5)), (1, 4, 5))
        self.assertEqual(undone_steps(turning(24), (1, 2, 3, 4, 5)), (19, 20, 21, 22, 23))

    def test_from_behind_ways_and_rounds_are_such_by_the_undone_steps(self):
        for group in small_groups():
            for steps in step_choices(group):
                others = undone_steps(group, steps)
                for way in ways_by_trying(group, steps):
                    self.assertIs(is_way(group, others, back(group, way)), True)
                for walk in rounds_by_trying(group, steps):
                    self.assertIs(is_round(group, others, back(group, walk)), True)
