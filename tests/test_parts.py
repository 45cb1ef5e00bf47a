import unittest
from itertools import combinations, product

from groupwalks.errors import NotLevel, WalkError
from groupwalks.groups import is_group
from groupwalks.parts import is_level, is_part, left_sides, rest_group, right_sides, side_of, span
from samples import (all_parts, even_swaps, grid, is_closed, quaternions, samples, spanned, swaps, turning,
                     values_of_all_kinds, walks_otherwise)


def small_groups():
    return [turning(1), turning(2), turning(3), turning(6), grid(2, 2), swaps(3), turning(8), quaternions(),
            grid(2, 2, 2)]


def are_rising_things(group, told):
    # By their texts, for True equals 1.
    return type(told) is tuple and repr(told) == repr(tuple(thing for thing in range(len(group)) if thing in told))


def subsets(group):
    return [things for size in range(len(group) + 1) for things in combinations(range(len(group)), size)]


def parts_by_trying(group):
    return [things for things in subsets(group) if is_closed(group, things)]


def sides_of(found):
    return sorted({tuple(sorted(things)) for things in found})


def left_by_trying(group, part):
    return sides_of([[group[x][thing] for thing in part] for x in range(len(group))])


def right_by_trying(group, part):
    return sides_of([[group[thing][x] for thing in part] for x in range(len(group))])


class Point20WhatThingsSpan(unittest.TestCase):
    def test_none_and_zero_span_zero_alone(self):
        for group in samples():
            for things in ((), (0,), (0, 0), (0,) * 60):
                self.assertEqual(span(group, things), (0,))

    def test_by_hand(self):
        self.assertEqual(span(turning(12), (8,)), (0, 4, 8))
        self.assertEqual(span(turning(12), (8, 6)), (0, 2, 4, 6, 8, 10))
        self.assertEqual(span(turning(12), (4, 9)), tuple(range(12)))
        self.assertEqual(span(swaps(3), (1,)), (0, 1))
        self.assertEqual(span(swaps(3), (4,)), (0, 3, 4))
        self.assertEqual(span(swaps(3), (5, 2)), tuple(range(6)))
        self.assertEqual(span(quaternions(), (4,)), (0, 1, 4, 5))

    def test_of_one_two_and_three_things(self):
        for group in samples():
            for size in (1, 2):
                for things in product(range(len(group)), repeat=size):
                    self.assertEqual(span(group, things), spanned(group, things))
            if len(group) <= 12:
                for things in combinations(range(len(group)), 3):
                    self.assertEqual(span(group, things), spanned(group, things))

    def test_things_told_twice_or_in_another_order(self):
        for group in samples():
            for i, j in product(range(len(group)), repeat=2):
                told = span(group, (i, j))
                for things in ((j, i), (i, i, j), (j, i, j), (0, j, i, 0), (i, j) * 30):
                    self.assertEqual(span(group, things), told)

    def test_it_is_a_rising_tuple(self):
        for group in samples():
            told = span(group, tuple(reversed(range(len(group)))))
            self.assertIs(type(told), tuple)
            self.assertEqual(told, tuple(range(len(group))))

    def test_it_is_the_least_part_that_has_them(self):
        for group in small_groups():
            parts = parts_by_trying(group)
            for things in product(range(len(group)), repeat=2):
                having = [part for part in parts if set(things) <= set(part)]
                self.assertEqual(span(group, things), min(having, key=len))
                for part in having:
                    self.assertLessEqual(set(span(group, things)), set(part))


class Point20WhatIsAPart(unittest.TestCase):
    def test_all_subsets_of_small_groups(self):
        for group in small_groups():
            for things in subsets(group):
                self.assertIs(is_part(group, things), is_closed(group, things))

    def test_parts_of_24_things(self):
        parts = all_parts(swaps(4))
        self.assertEqual(len(parts), 30)
        for part in parts:
            self.assertIs(is_part(swaps(4), part), True)
        for n in range(1, 25):
            self.assertIs(is_part(turning(24), tuple(range(0, 24, n))), 24 % n == 0)

    def test_parts_told_otherwise(self):
        for group in samples():
            for part in all_parts(group):
                for other in walks_otherwise(part, group):
                    self.assertIs(is_part(group, other), are_rising_things(group, other) and is_closed(group, other))

    def test_by_hand(self):
        self.assertIs(is_part(turning(6), (0, 2, 4)), True)
        for thing in ((), (0, 2), (2, 4), (0, 4, 2), (2, 0, 4), (0, 2, 2, 4), (0, 0, 2, 4), [0, 2, 4], (0, 2, 4, 6),
                      (-2, 0, 2, 4), (-6, -4, -2), (0, 2, 4, 10 ** 30), (0, 1, 2, 4), (False, 2, 4), "024", {0: 2}):
            self.assertIs(is_part(turning(6), thing), False)
        self.assertIs(is_part(swaps(3), (0, 1)), True)
        self.assertIs(is_part(swaps(3), (0, True)), False)
        self.assertIs(is_part(swaps(3), (False, 1)), False)
        # Without 0, though any two of them times one another are not asked for: there are no two.
        self.assertIs(is_part(turning(1), ()), False)
        self.assertIs(is_part(turning(1), (0,)), True)
        self.assertIs(is_part(turning(1), (False,)), False)

    def test_of_anything(self):
        for group in (turning(1), turning(2), swaps(3), swaps(4)):
            for thing in values_of_all_kinds():
                self.assertIs(is_part(group, thing), repr(thing) == "(0,)")
                for told in ((0, thing), (thing, 1)):
                    self.assertIs(is_part(group, told), are_rising_things(group, told) and is_closed(group, told))
                self.assertIs(is_part(group, [thing]), False)


class Point21Sides(unittest.TestCase):
    def test_each_part_of_each_sample(self):
        for group in samples():
            for part in all_parts(group):
                self.assertEqual(left_sides(group, part), left_by_trying(group, part))
                self.assertEqual(right_sides(group, part), right_by_trying(group, part))
                self.assertIs(is_level(group, part), left_by_trying(group, part) == right_by_trying(group, part))

    def test_each_thing_is_in_just_one_and_all_are_of_one_size(self):
        for group in samples():
            for part in all_parts(group):
                for sides in (left_sides(group, part), right_sides(group, part)):
                    self.assertEqual(sorted(thing for side in sides for thing in side), list(range(len(group))))
                    self.assertEqual({len(side) for side in sides}, {len(part)})
                    self.assertEqual([side[0] for side in sides], sorted(side[0] for side in sides))
                    self.assertEqual(sides[0], part)

    def test_the_part_of_zero_alone_and_of_all_things(self):
        for group in samples():
            alone = [(thing,) for thing in range(len(group))]
            self.assertEqual(left_sides(group, (0,)), alone)
            self.assertEqual(right_sides(group, (0,)), alone)
            all_things = tuple(range(len(group)))
            self.assertEqual(left_sides(group, all_things), [all_things])
            self.assertEqual(right_sides(group, all_things), [all_things])
            self.assertIs(is_level(group, (0,)), True)
            self.assertIs(is_level(group, all_things), True)

    def test_by_hand(self):
        self.assertEqual(left_sides(turning(6), (0, 3)), [(0, 3), (1, 4), (2, 5)])
        self.assertEqual(right_sides(turning(6), (0, 3)), [(0, 3), (1, 4), (2, 5)])
        self.assertEqual(left_sides(swaps(3), (0, 1)), [(0, 1), (2, 3), (4, 5)])
        self.assertEqual(right_sides(swaps(3), (0, 1)), [(0, 1), (2, 4), (3, 5)])
        self.assertEqual(left_sides(swaps(3), (0, 3, 4)), [(0, 3, 4), (1, 2, 5)])
        self.assertIs(is_level(swaps(3), (0, 1)), False)
        self.assertIs(is_level(swaps(3), (0, 3, 4)), True)

    def test_how_many_parts_are_level(self):
        for group, many in ((swaps(3), 3), (quaternions(), 6), (even_swaps(4), 3), (swaps(4), 4), (turning(24), 8)):
            self.assertEqual(sum(is_level(group, part) for part in all_parts(group)), many)

    def test_the_lists_are_the_askers_own(self):
        for told in (left_sides, right_sides):
            first = told(swaps(3), (0, 1))
            before = list(first)
            first.reverse()
            first.append((0,))
            self.assertEqual(told(swaps(3), (0, 1)), before)
            self.assertIs(type(before), list)
            self.assertEqual({type(side) for side in before}, {tuple})


class Point22RestGroups(unittest.TestCase):
    def test_pair_by_pair(self):
        for group in samples():
            for part in all_parts(group):
                sides = left_by_trying(group, part)
                if sides != right_by_trying(group, part):
                    continue
                rest = rest_group(group, part)
                self.assertIs(is_group(rest), True)
                self.assertEqual(len(rest), len(sides))
                for i, j in product(range(len(sides)), repeat=2):
                    for x, y in product(sides[i], sides[j]):
                        self.assertIn(group[x][y], sides[rest[i][j]])

    def test_by_hand(self):
        self.assertEqual(rest_group(turning(6), (0, 3)), turning(3))
        self.assertEqual(rest_group(turning(6), (0, 2, 4)), turning(2))
        self.assertEqual(rest_group(swaps(3), (0, 3, 4)), turning(2))
        self.assertEqual(rest_group(quaternions(), (0, 1)), grid(2, 2))
        for group in samples():
            self.assertEqual(rest_group(group, (0,)), group)
            self.assertEqual(rest_group(group, tuple(range(len(group)))), ((0,),))

    def test_a_part_that_is_not_level(self):
        refused = 0
        for group in samples():
            for part in all_parts(group):
                if left_by_trying(group, part) != right_by_trying(group, part):
                    refused += 1
                    with self.assertRaises(NotLevel):
                        rest_group(group, part)
        self.assertEqual(refused, 3 + 7 + 26)
        self.assertTrue(issubclass(NotLevel, WalkError))

    def test_the_number_of_the_side_of_each_thing(self):
        for group in samples():
            for part in all_parts(group):
                sides = left_by_trying(group, part)
                for thing in range(len(group)):
                    number = side_of(group, part, thing)
                    self.assertIs(type(number), int)
                    self.assertIn(thing, sides[number])

    def test_the_side_is_the_left_one_where_the_part_is_not_level(self):
        self.assertEqual([side_of(swaps(3), (0, 1), thing) for thing in range(6)], [0, 0, 1, 1, 2, 2])
        self.assertEqual([side_of(turning(6), (0, 3), thing) for thing in range(6)], [0, 1, 2, 0, 1, 2])
        self.assertEqual([side_of(turning(3), (0,), thing) for thing in range(3)], [0, 1, 2])
        self.assertEqual([side_of(turning(3), (0, 1, 2), thing) for thing in range(3)], [0, 0, 0])
