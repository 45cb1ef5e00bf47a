import unittest
from itertools import permutations, product

from groupwalks.errors import TooMany
from groupwalks.groups import along, clock, flips, is_group, is_plain, named, order_of, put_together, undone
from samples import (even_swaps, grid, other_samples, plain_samples, quaternions, samples, swaps, table_by, turning,
                     values_of_all_kinds)


def with_row(group, i, row):
    return group[:i] + (row,) + group[i + 1:]


def with_number(group, i, j, number):
    return with_row(group, i, group[i][:j] + (number,) + group[i][j + 1:])


def cells(group):
    return product(range(len(group)), repeat=2)


class Point10WhatIsAGroup(unittest.TestCase):
    def test_groups_of_all_sizes(self):
        for group in samples() + [turning(n) for n in range(1, 25)]:
            self.assertIs(is_group(group), True)

    def test_none_and_more_than_24(self):
        self.assertIs(is_group(()), False)
        self.assertIs(is_group(turning(25)), False)
        self.assertIs(is_group(grid(5, 5)), False)

    def test_one_number_otherwise(self):
        for group in (turning(2), turning(3), grid(2, 2), swaps(3), quaternions()):
            many = len(group)
            for i, j in cells(group):
                for number in range(-1, many + 1):
                    self.assertIs(is_group(with_number(group, i, j, number)), number == group[i][j])

    def test_numbers_far_off(self):
        for group in (turning(1), turning(2), swaps(3), turning(24)):
            for number in (-100, -len(group) - 1, -len(group), len(group), 100, 10 ** 30, -10 ** 30):
                for i, j in ((0, 0), (0, len(group) - 1), (len(group) - 1, 0), (len(group) - 1, len(group) - 1)):
                    self.assertIs(is_group(with_number(group, i, j, number)), False)
                self.assertIs(is_group(((number,) * len(group),) * len(group)), False)

    def test_one_number_otherwise_of_24_things(self):
        group = swaps(4)
        for i, j in cells(group):
            if (i + j) % 5 == 0:
                self.assertIs(is_group(with_number(group, i, j, (group[i][j] + 1) % 24)), False)

    def test_other_kinds_in_a_numbers_stead(self):
        for group in (turning(1), turning(2), swaps(3), turning(24)):
            for i, j in ((0, 0), (0, len(group) - 1), (len(group) - 1, 0)):
                number = group[i][j]
                for other in (str(number), None, [number], (number,), {number: number}, ""):
                    self.assertIs(is_group(with_number(group, i, j, other)), False)

    def test_truths_in_a_numbers_stead(self):
        for group in (turning(1), turning(2), grid(2, 2), swaps(3)):
            for i, j in cells(group):
                if group[i][j] < 2:
                    self.assertIs(is_group(with_number(group, i, j, group[i][j] == 1)), False)

    def test_lists_in_the_stead_of_tuples(self):
        for group in (turning(1), turning(2), swaps(3), turning(24)):
            self.assertIs(is_group(list(group)), False)
            self.assertIs(is_group([list(row) for row in group]), False)
            self.assertIs(is_group(tuple(list(row) for row in group)), False)
            self.assertIs(is_group(with_row(group, len(group) - 1, list(group[-1]))), False)

    def test_rows_and_numbers_fewer_or_more(self):
        for group in (turning(1), turning(2), grid(2, 2), swaps(3), turning(24)):
            self.assertIs(is_group(group[:-1]), False)
            self.assertIs(is_group(group + (group[-1],)), False)
            for i in range(len(group)):
                self.assertIs(is_group(with_row(group, i, group[i][:-1])), False)
                self.assertIs(is_group(with_row(group, i, group[i] + (0,))), False)
                self.assertIs(is_group(with_row(group, i, None)), False)

    def test_all_tables_of_two_and_three_things(self):
        for many in (2, 3):
            rows = list(product(range(many), repeat=many))
            found = [table for table in product(rows, repeat=many) if is_group(table)]
            self.assertEqual(found, [turning(many)])

    def test_zero_must_change_nothing(self):
        self.assertIs(is_group(((1, 0), (0, 1))), False)
        for order in permutations(range(4)):
            group = table_by(list(order), lambda a, b: (a + b) % 4)
            self.assertIs(is_group(group), order[0] == 0)

    def test_each_thing_must_be_undone(self):
        self.assertIs(is_group(((0, 1), (1, 1))), False)
        self.assertIs(is_group(((0, 1, 2), (1, 0, 2), (2, 2, 2))), False)

    def test_tables_of_five_things_with_each_thing_once_in_rows_and_columns(self):
        rows = [[row for row in permutations(range(5)) if row[0] == i] for i in range(5)]
        tables = [table for table in product([tuple(range(5))], *rows[1:]) if
                  all(len(set(column)) == 5 for column in zip(*table))]
        self.assertEqual(len(tables), 56)
        # One clock of 5, whose four other things may be numbered in 24 ways, each alike with three more.
        named_clocks = {table_by([0] + list(order), lambda a, b: (a + b) % 5) for order in permutations(range(1, 5))}
        self.assertEqual(len(named_clocks), 6)
        self.assertEqual({table for table in tables if is_group(table)}, named_clocks)

    def test_of_anything(self):
        groups = [((0,),)]
        for thing in values_of_all_kinds():
            self.assertIs(is_group(thing), False)
            self.assertIs(is_group((thing,)), repr((thing,)) in map(repr, groups))
            self.assertIs(is_group((thing, thing)), False)
            self.assertIs(is_group(((thing,),)), repr(((thing,),)) in map(repr, groups))


class Point11Products(unittest.TestCase):
    def test_of_none_and_of_one(self):
        for group in samples():
            self.assertEqual(along(group, ()), 0)
            for thing in range(len(group)):
                self.assertEqual(along(group, (thing,)), thing)

    def test_of_two_in_their_order(self):
        for group in samples():
            for i, j in cells(group):
                self.assertEqual(along(group, (i, j)), group[i][j])

    def test_of_sixty_in_a_group_that_is_not_plain(self):
        swapped = list(permutations(range(4)))
        walk = tuple((7 * k * k + 3 * k + 1) % 24 for k in range(60))
        for many in range(61):
            spot = [0, 1, 2, 3]
            for thing in walk[:many]:
                spot = [spot[k] for k in swapped[thing]]
            self.assertEqual(along(swaps(4), walk[:many]), swapped.index(tuple(spot)))
        self.assertNotEqual(along(swaps(4), (1, 2)), along(swaps(4), (2, 1)))

    def test_the_undone_of_each_thing(self):
        for group in samples():
            for thing in range(len(group)):
                other = undone(group, thing)
                self.assertEqual((group[thing][other], group[other][thing]), (0, 0))
        self.assertEqual([undone(turning(5), thing) for thing in range(5)], [0, 4, 3, 2, 1])
        self.assertEqual([undone(swaps(3), thing) for thing in range(6)], [0, 1, 2, 4, 3, 5])

    def test_the_order_of_each_thing(self):
        for group in samples():
            for thing in range(len(group)):
                told = order_of(group, thing)
                self.assertEqual([k for k in range(1, told + 1) if along(group, (thing,) * k) == 0], [told])
        self.assertEqual([order_of(turning(6), thing) for thing in range(6)], [1, 6, 3, 2, 3, 6])
        self.assertEqual([order_of(quaternions(), thing) for thing in range(8)], [1, 2, 4, 4, 4, 4, 4, 4])
        self.assertEqual(sorted(order_of(swaps(4), thing) for thing in range(24)), [1] + [2] * 9 + [3] * 8 + [4] * 6)
        self.assertEqual(order_of(turning(24), 1), 24)

    def test_plain_groups_and_others(self):
        for group in plain_samples():
            self.assertIs(is_plain(group), True)
        for group in other_samples():
            self.assertIs(is_plain(group), False)


class Point12GroupsMade(unittest.TestCase):
    def test_clocks(self):
        for n in range(1, 25):
            self.assertEqual(clock(n), turning(n))
        self.assertEqual(clock(1), ((0,),))
        self.assertEqual(clock(24)[23], (23,) + tuple(range(23)))

    def test_flips_pair_by_pair(self):
        for n in range(1, 13):
            group = flips(n)
            self.assertIs(is_group(group), True)
            self.assertEqual(len(group), 2 * n)
            for a, b in product(range(n), repeat=2):
                self.assertEqual(group[a][b], (a + b) % n)
                self.assertEqual(group[a][n + b], n + (a + b) % n)
                self.assertEqual(group[n + a][b], n + (a - b) % n)
                self.assertEqual(group[n + a][n + b], (a - b) % n)

    def test_flips_of_one_two_three_and_twelve(self):
        self.assertEqual(flips(1), ((0, 1), (1, 0)))
        self.assertEqual(flips(2), grid(2, 2))
        self.assertEqual(flips(3)[1], (1, 2, 0, 4, 5, 3))
        self.assertEqual(flips(3)[4], (4, 3, 5, 1, 0, 2))
        self.assertIs(is_plain(flips(3)), False)
        self.assertEqual(len(flips(12)), 24)

    def test_put_together_pair_by_pair(self):
        pairs = [(turning(1), turning(1)), (turning(1), turning(24)), (turning(24), turning(1)), (turning(2), swaps(3)),
                 (swaps(3), turning(2)), (swaps(3), grid(2, 2)), (even_swaps(4), turning(2)), (turning(4), turning(6)),
                 (turning(3), quaternions())]
        for one, other in pairs:
            group, m = put_together(one, other), len(other)
            self.assertIs(is_group(group), True)
            self.assertEqual(len(group), len(one) * m)
            for i, j in cells(one):
                for k, l in cells(other):
                    self.assertEqual(group[i * m + k][j * m + l], one[i][j] * m + other[k][l])
        self.assertEqual(put_together(turning(2), turning(3)), grid(2, 3))

    def test_put_together_of_more_than_24_things(self):
        for one, other in ((turning(5), turning(5)), (turning(13), turning(2)), (turning(2), turning(13)),
                           (swaps(4), turning(2)), (turning(2), swaps(4)), (turning(24), turning(24))):
            with self.assertRaises(TooMany):
                put_together(one, other)

    def test_named_anew_pair_by_pair(self):
        for group in samples():
            many = len(group)
            rest = list(range(1, many))
            for order in ((0, *rest), (0, *reversed(rest)), (0, *rest[2:], *rest[:2]), (0, *rest[1::2], *rest[::2])):
                other = named(group, order)
                self.assertIs(is_group(other), True)
                for k, l in cells(group):
                    self.assertEqual(order[other[k][l]], group[order[k]][order[l]])

    def test_named_anew_by_hand(self):
        self.assertEqual(named(turning(1), (0,)), turning(1))
        self.assertEqual(named(swaps(3), (0, 1, 2, 3, 4, 5)), swaps(3))
        # The 3 of the clock is numbered 1 here, so 1 times 1 is the 2 of the clock, which is numbered 3.
        self.assertEqual(named(turning(4), (0, 3, 1, 2))[1], (1, 3, 0, 2))
