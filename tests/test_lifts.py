import unittest
from itertools import product

from groupwalks.errors import NoLift, NotLevel, NoTwist, TooMany
from groupwalks.groups import clock, flips, is_group, is_plain, put_together
from groupwalks.lifts import lifted, twisted, woven, woven_round
from samples import (all_parts, all_ways, comes_to, comes_to_each_once, even_swaps, grid, is_among, quaternions,
                     spanned, swaps, table_by, turning, values_of_all_kinds, walk_between, walks_otherwise)


def small_groups():
    return [turning(1), turning(2), turning(3), turning(4), grid(2, 2), turning(6), swaps(3)]


def side_at(group, part, x):
    return tuple(sorted(group[x][thing] for thing in part))


def is_level_part(group, part):
    return all(side_at(group, part, x) == tuple(sorted(group[thing][x] for thing in part)) for x in range(len(group)))


def level_parts(group):
    return [part for part in all_parts(group) if is_level_part(group, part)]


def is_to_lift(group, part, walk):
    # The sides that are come to in the rest group are those of the places in the group.
    come_to = comes_to(group, walk)
    met = [side_at(group, part, place) for place in come_to]
    return (0 not in walk and len(set(met[:-1])) == len(walk) == len(group) // len(part) and met[-1] == part and
            spanned(group, come_to[-1:]) == part)


def comes_round(group, walk):
    return len(walk) >= 2 and comes_to_each_once(group, walk[:-1]) and comes_to(group, walk)[-1] == 0


def walks_that_lift(group, part):
    tried = product(range(1, len(group)), repeat=len(group) // len(part))
    return [walk for walk in tried if is_to_lift(group, part, walk)]


class Point60WalksLifted(unittest.TestCase):
    def refused(self, group, part, walk):
        with self.assertRaises(NoLift):
            lifted(group, part, walk)

    def test_all_walks_of_small_groups(self):
        many = 0
        for group in small_groups():
            for part in level_parts(group):
                size = len(group) // len(part)
                for walk in product(range(len(group)) if size <= 4 else range(1, len(group)), repeat=size):
                    if is_to_lift(group, part, walk):
                        many += 1
                        told = lifted(group, part, walk)
                        self.assertIs(type(told), tuple)
                        self.assertEqual(told, walk * len(part))
                        self.assertIs(comes_round(group, told), True)
                    else:
                        self.refused(group, part, walk)
        self.assertGreater(many, 100)

    def test_by_hand(self):
        self.assertEqual(lifted(turning(6), (0, 3), (1, 1, 1)), (1, 1, 1, 1, 1, 1))
        self.assertEqual(lifted(turning(6), (0, 2, 4), (1, 3)), (1, 3, 1, 3, 1, 3))
        self.assertEqual(lifted(turning(6), (0, 1, 2, 3, 4, 5), (5,)), (5,) * 6)
        self.assertEqual(lifted(turning(4), (0,), (1, 1, 1, 1)), (1, 1, 1, 1))
        self.assertEqual(lifted(swaps(3), (0, 3, 4), (1, 2)), (1, 2, 1, 2, 1, 2))
        self.assertEqual(lifted(swaps(3), (0,), (1, 2, 1, 2, 1, 2)), (1, 2, 1, 2, 1, 2))

    def test_groups_of_eight_twelve_and_24_things(self):
        self.assertEqual(lifted(turning(24), (0, 12), (1,) * 12), (1,) * 24)
        for group in (quaternions(), even_swaps(4), swaps(4), turning(24)):
            for part in level_parts(group):
                if len(group) // len(part) <= 3:
                    for walk in walks_that_lift(group, part):
                        told = lifted(group, part, walk)
                        self.assertEqual(told, walk * len(part))
                        self.assertIs(comes_round(group, told), True)

    def test_walks_that_lift_told_otherwise(self):
        for group in small_groups() + [quaternions()]:
            for part in level_parts(group):
                if len(group) // len(part) > 4:
                    continue
                walks = walks_that_lift(group, part)
                for walk in walks[:6]:
                    self.assertEqual(lifted(group, part, walk), walk * len(part))
                    for other in walks_otherwise(walk, group):
                        if is_among(other, walks):
                            self.assertEqual(lifted(group, part, other), other * len(part))
                        else:
                            self.refused(group, part, other)

    def test_one_thing_of_another_kind_or_number(self):
        for walk in ((1, 1), (1, 1, 1, 1), (1, 0, 1), (1, 3, 1), (3, 1, 1), [1, 1, 1], (1, True, 1), (True, True, True),
                     (1, 1, 7), (1, 1, -5), (7, 7, 7), (1, 1, "1"), (1, 1, None), (1, 1, (1,)), ((1, 1, 1),), "111",
                     {1: 1}, (1,) * 999, 10 ** 30, None):
            self.refused(turning(6), (0, 3), walk)

    def test_a_walk_that_comes_round_but_does_not_span_the_part(self):
        # The sides are come to once, and home; but the product is 0, or too small a part of the part.
        self.refused(turning(6), (0, 3), (1, 1, 4))
        self.refused(turning(6), (0, 2, 4), (1, 5))
        self.refused(turning(12), (0, 3, 6, 9), (1, 1, 4))
        self.refused(grid(2, 2), (0, 1, 2, 3), (1,))
        self.refused(turning(6), (0, 1, 2, 3, 4, 5), (2,))

    def test_a_walk_that_spans_the_part_but_does_not_come_round(self):
        self.refused(turning(6), (0, 3), (1, 3, 5))
        self.refused(turning(6), (0, 3), (3, 3, 3))
        self.refused(turning(12), (0, 6), (1, 5, 1, 5, 1, 5))

    def test_a_walk_that_comes_home_too_late(self):
        self.refused(turning(6), (0, 3), (1,) * 6)
        self.refused(turning(6), (0, 2, 4), (1, 1, 1, 1))
        self.refused(turning(6), (0,), ())

    def test_a_group_of_one_thing_has_no_walk_without_zero(self):
        for walk in ((), (0,), (0, 0), (1,), [], None):
            self.refused(turning(1), (0,), walk)

    def test_of_anything(self):
        for group, part in ((turning(1), (0,)), (turning(2), (0,)), (turning(6), (0, 3)), (swaps(3), (0, 3, 4))):
            for thing in values_of_all_kinds():
                self.refused(group, part, thing)
                if repr(thing) != "1":
                    self.refused(group, part, (thing,) * (len(group) // len(part)))
        for thing in values_of_all_kinds():
            if repr(thing) == "(1,)":
                self.assertEqual(lifted(turning(2), (0, 1), thing), (1, 1))
            else:
                self.refused(turning(2), (0, 1), thing)

    def test_a_part_that_is_not_level_goes_first(self):
        for group in (swaps(3), even_swaps(4), swaps(4)):
            for part in all_parts(group):
                if not is_level_part(group, part):
                    for walk in ((1,) * (len(group) // len(part)), (), (0,), [1], None, "1", (True, 99)):
                        with self.assertRaises(NotLevel):
                            lifted(group, part, walk)


def twisted_by_words(n, m, r):
    def times(a, b):
        return (a[0] + r ** a[1] * b[0]) % n, (a[1] + b[1]) % m

    return table_by(list(product(range(n), range(m))), times)


class Point61TwistedGroups(unittest.TestCase):
    def numbers(self):
        return [(n, m, r) for n, m in product(range(1, 27), repeat=2) for r in range(n)]

    def test_all_numbers(self):
        for n, m, r in self.numbers():
            if n * m > 24:
                self.assertRaises(TooMany, twisted, n, m, r)
            elif r ** m % n != 1 % n:
                self.assertRaises(NoTwist, twisted, n, m, r)
            else:
                told = twisted(n, m, r)
                self.assertEqual(told, twisted_by_words(n, m, r))
                self.assertIs(is_group(told), True)

    def test_by_hand(self):
        self.assertEqual(twisted(1, 1, 0), ((0,),))
        self.assertEqual(twisted(2, 1, 1), ((0, 1), (1, 0)))
        self.assertEqual(twisted(3, 2, 2)[1], (1, 0, 5, 4, 3, 2))
        self.assertEqual(twisted(3, 2, 2)[2], (2, 3, 4, 5, 0, 1))
        self.assertIs(is_plain(twisted(3, 2, 2)), False)
        self.assertIs(is_plain(twisted(7, 3, 2)), False)

    def test_by_one_it_is_both_clocks_put_together(self):
        for n in range(2, 25):
            for m in range(1, 24 // n + 1):
                self.assertEqual(twisted(n, m, 1), put_together(clock(n), clock(m)))

    def test_of_n_1_it_is_a_clock(self):
        for m in range(1, 25):
            self.assertEqual(twisted(1, m, 0), turning(m))

    def test_zero_twists_nothing_but_n_1(self):
        for n in range(2, 25):
            for m in range(1, 24 // n + 1):
                self.assertRaises(NoTwist, twisted, n, m, 0)

    def test_just_24_things_and_more(self):
        for n, m, r in ((12, 2, 11), (24, 1, 1), (1, 24, 0), (8, 3, 1), (3, 8, 2), (6, 4, 5), (4, 6, 3), (2, 12, 1)):
            self.assertEqual(len(twisted(n, m, r)), 24)
        for n, m, r in ((25, 1, 1), (1, 25, 0), (5, 5, 1), (13, 2, 12), (2, 13, 1), (9, 3, 4), (1000, 1000, 999)):
            self.assertRaises(TooMany, twisted, n, m, r)

    def test_of_both_refusals_too_many_goes_first(self):
        for n, m, r in ((25, 1, 0), (5, 5, 0), (5, 5, 2), (13, 2, 5), (26, 2, 13)):
            self.assertNotEqual(r ** m % n, 1)
            self.assertRaises(TooMany, twisted, n, m, r)


def a_way(group):
    return walk_between(group, range(len(group)))


def pairs_of_groups():
    groups = small_groups() + [turning(5), quaternions(), even_swaps(4), turning(12), flips(6), swaps(4)]
    return [(one, other) for one, other in product(groups, repeat=2) if len(one) * len(other) <= 24]


def some_ways(group):
    ways = all_ways(group) if len(group) <= 5 else []
    far = (0,) + tuple(reversed(range(1, len(group))))
    return ways[:8] + [a_way(group), walk_between(group, far)]


def rows_by_turns(one, way, other, other_way):
    """The places of a way woven: row by row, each the other way round."""
    across = comes_to(other, other_way)
    rows = [[place * len(other) + spot for spot in across] for place in comes_to(one, way)]
    return [place for k, row in enumerate(rows) for place in (reversed(row) if k % 2 else row)]


def rows_and_home(one, way, other, other_way):
    """The places of a round woven: rows by turns, all but the first without its first place, and these at last."""
    m = len(other)
    come_to, across = comes_to(one, way), comes_to(other, other_way)
    rows = [[place * m + spot for spot in across[1:]] for place in come_to]
    inner = [place for k, row in enumerate(rows) for place in (reversed(row) if k % 2 else row)]
    return [0] + inner + [place * m for place in reversed(come_to)]


class Point62WaysWoven(unittest.TestCase):
    def test_by_its_places(self):
        for one, other in pairs_of_groups():
            both = put_together(one, other)
            for way, other_way in product(some_ways(one), some_ways(other)):
                told = woven(one, way, other, other_way)
                self.assertIs(type(told), tuple)
                self.assertEqual(comes_to(both, told), rows_by_turns(one, way, other, other_way))
                self.assertIs(comes_to_each_once(both, told), True)

    def test_by_hand(self):
        self.assertEqual(woven(turning(2), (1,), turning(3), (1, 1)), (1, 1, 3, 2, 2))
        self.assertEqual(woven(turning(3), (1, 1), turning(3), (1, 1)), (1, 1, 3, 2, 2, 3, 1, 1))
        self.assertEqual(woven(turning(3), (2, 2), turning(2), (1,)), (1, 4, 1, 4, 1))
        self.assertEqual(woven(turning(2), (1,), turning(4), (1, 2, 3)), (1, 2, 3, 4, 1, 2, 3))
        self.assertEqual(woven(turning(2), (1,), turning(4), (2, 3, 2)), (2, 3, 2, 4, 2, 1, 2))

    def test_groups_of_one_thing(self):
        self.assertEqual(woven(turning(1), (), turning(1), ()), ())
        self.assertEqual(woven(turning(1), (), turning(3), (2, 2)), (2, 2))
        self.assertEqual(woven(turning(3), (2, 2), turning(1), ()), (2, 2))
        self.assertEqual(woven(turning(1), (), swaps(4), a_way(swaps(4))), a_way(swaps(4)))

    def test_no_way_on_either_side(self):
        for refusing in (woven, woven_round):
            for one, other in ((turning(2), turning(3)), (turning(4), swaps(3)), (grid(2, 2), turning(2))):
                for way in walks_otherwise(a_way(one), one):
                    if not is_among(way, all_ways(one)):
                        self.assertRaises(NoLift, refusing, one, way, other, a_way(other))
                        self.assertRaises(NoLift, refusing, one, way, other, way)
                for way in walks_otherwise(a_way(other), other):
                    if not is_among(way, all_ways(other)):
                        self.assertRaises(NoLift, refusing, one, a_way(one), other, way)

    def test_of_anything_on_either_side(self):
        for refusing in (woven, woven_round):
            for thing in values_of_all_kinds():
                self.assertRaises(NoLift, refusing, turning(4), thing, turning(3), (1, 1))
                self.assertRaises(NoLift, refusing, turning(4), (1, 1, 1), turning(3), thing)
                self.assertRaises(NoLift, refusing, turning(4), thing, turning(3), thing)
        for thing in values_of_all_kinds():
            if repr(thing) == "()":
                self.assertEqual(woven(turning(1), thing, turning(1), thing), ())
            else:
                self.assertRaises(NoLift, woven, turning(1), thing, turning(2), (1,))
                self.assertRaises(NoLift, woven, turning(2), (1,), turning(1), thing)

    def test_by_hand_what_is_no_way(self):
        for thing in ((1,), (1, 1, 1), (0, 1), (1, 0), (1, 2), [1, 1], (True, 1), (1, True), (1, 3), (1, -2), (4, 4),
                      "11", None, {0: 1, 1: 1}, ()):
            self.assertRaises(NoLift, woven, turning(2), (1,), turning(3), thing)
            self.assertRaises(NoLift, woven, turning(3), thing, turning(2), (1,))
            self.assertRaises(NoLift, woven_round, turning(2), (1,), turning(3), thing)

    def test_more_than_24_things(self):
        for refusing in (woven, woven_round):
            for one, other in ((turning(5), turning(5)), (turning(2), turning(13)), (turning(13), turning(2)),
                               (swaps(4), turning(2)), (turning(24), turning(24))):
                self.assertRaises(TooMany, refusing, one, a_way(one), other, a_way(other))
                for way in ((), (0,), None, [1], "1"):
                    self.assertRaises(TooMany, refusing, one, way, other, a_way(other))
                    self.assertRaises(TooMany, refusing, one, a_way(one), other, way)
                    self.assertRaises(TooMany, refusing, one, way, other, way)

    def test_just_24_things(self):
        for one, other in ((turning(1), swaps(4)), (swaps(4), turning(1)), (turning(12), turning(2)),
                           (turning(2), flips(6)), (turning(4), swaps(3)), (turning(3), quaternions())):
            self.assertEqual(len(woven(one, a_way(one), other, a_way(other))), 23)


class Point63RoundsWoven(unittest.TestCase):
    def test_by_its_places(self):
        for one, other in pairs_of_groups():
            if len(one) % 2 == 0 and len(other) >= 2:
                both = put_together(one, other)
                for way, other_way in product(some_ways(one), some_ways(other)):
                    told = woven_round(one, way, other, other_way)
                    self.assertIs(type(told), tuple)
                    self.assertEqual(comes_to(both, told), rows_and_home(one, way, other, other_way))
                    self.assertIs(comes_round(both, told), True)

    def test_by_hand(self):
        self.assertEqual(woven_round(turning(2), (1,), turning(2), (1,)), (1, 2, 1, 2))
        self.assertEqual(woven_round(turning(2), (1,), turning(3), (1, 1)), (1, 1, 3, 2, 2, 3))
        self.assertEqual(woven_round(turning(4), (1, 1, 1), turning(2), (1,)), (1, 2, 2, 2, 1, 6, 6, 6))
        self.assertEqual(woven_round(turning(4), (1, 1, 1), turning(3), (1, 1)), (1, 1, 3, 2, 3, 1, 3, 2, 2, 9, 9, 9))

    def test_odd_numbers_of_things_and_a_single_thing(self):
        for one, other in pairs_of_groups():
            if len(one) % 2 == 1 or len(other) < 2:
                self.assertRaises(NoLift, woven_round, one, a_way(one), other, a_way(other))
                self.assertRaises(NoLift, woven_round, one, None, other, a_way(other))
                self.assertRaises(NoLift, woven_round, one, a_way(one), other, None)

    def test_the_numbers_not_so_and_too_many_at_once(self):
        for one, other in ((turning(5), turning(5)), (turning(13), turning(2)), (turning(9), turning(3))):
            self.assertRaises(TooMany, woven_round, one, a_way(one), other, a_way(other))

    def test_an_even_number_of_things_of_the_other_is_not_asked_for(self):
        self.assertEqual(len(woven_round(turning(2), (1,), turning(5), (1, 1, 1, 1))), 10)
        self.assertEqual(len(woven_round(turning(2), (1,), turning(12), (5,) * 11)), 24)
