import unittest
from itertools import permutations, product
from math import gcd

from groupwalks.errors import TooMany
from groupwalks.groups import clock, flips, named, put_together
from groupwalks.lifts import twisted
from groupwalks.maps import all_rounds, is_own_map, keeping_maps, led, own_maps, round_kinds
from samples import (by_steps, even_swaps, every_round, grid, is_among, one_thing_otherwise, quaternions, steps_of,
                     swaps, turning, values_of_all_kinds, walks_otherwise)


def small_groups():
    return [turning(1), turning(2), turning(3), turning(4), grid(2, 2), turning(5), turning(6), swaps(3), turning(7)]


def groups_of_eight():
    return [turning(8), grid(2, 4), grid(2, 2, 2), quaternions(), flips(4)]


def groups_of_twelve():
    return [turning(12), grid(2, 6), even_swaps(4), flips(6), twisted(3, 4, 2)]


def groups_beyond_twelve():
    return [turning(13), turning(14), flips(7), grid(2, 2, 2, 2), swaps(4), turning(24)]


def groups_beyond_eight():
    return [turning(9), grid(3, 3), turning(10), flips(5)] + groups_of_twelve() + groups_beyond_twelve()


def leads_times_to_times(group, own):
    things = range(len(group))
    return all(own[group[i][j]] == group[own[i]][own[j]] for i, j in product(things, things))


def maps_of_all_orders(group):
    return [order for order in permutations(range(len(group))) if leads_times_to_times(group, order)]


def fits_so_far(group, own):
    known = range(len(own))
    return all(group[i][j] >= len(own) or own[group[i][j]] == group[own[i]][own[j]] for i, j in product(known, known))


def maps_by_trying(group, own=()):
    """All own maps, rising, each begun with own and led on thing by thing."""
    if len(own) == len(group):
        return [own]
    tried = [own + (thing,) for thing in range(len(group)) if thing not in own]
    return [found for longer in tried if fits_so_far(group, longer) for found in maps_by_trying(group, longer)]


def keeping(maps, steps):
    return [own for own in maps if {own[step] for step in steps} == set(steps)]


def clock_maps(n):
    return sorted({tuple(i * by % n for i in range(n)) for by in range(1, n + 1) if gcd(by, n) == 1})


def flips_maps(n):
    """Turns are taken by a number, flips besides moved on by another one."""
    return sorted(
        tuple([a * by % n for a in range(n)] + [n + (a * by + on) % n for a in range(n)])
        for by in range(1, n) if gcd(by, n) == 1 for on in range(n))


def renamed_samples():
    """Groups whose first things are times one another seldom among the first ones."""
    return [named(turning(12), (0, 11, 9, 7, 5, 3, 1, 10, 8, 6, 4, 2)), named(turning(8), (0, 7, 5, 3, 1, 2, 4, 6)),
            named(flips(6), (0, 11, 9, 7, 10, 8, 6, 5, 3, 1, 2, 4)),
            named(grid(2, 6), (0, 3, 6, 9, 2, 4, 8, 10, 1, 5, 7, 11)),
            named(even_swaps(4), (0, 11, 10, 9, 8, 7, 6, 5, 4, 3, 2, 1))]


class Point80IsOwnMap(unittest.TestCase):
    def test_all_orders_of_small_groups(self):
        for group in small_groups():
            for order in permutations(range(len(group))):
                self.assertIs(is_own_map(group, order), leads_times_to_times(group, order))

    def test_all_maps_of_small_groups_unlike_or_not(self):
        # To lead all to 0 keeps what times tells, but is no own map of more than one thing.
        for group in (turning(1), turning(2), turning(3), turning(4), grid(2, 2), turning(5)):
            for thing in product(range(len(group)), repeat=len(group)):
                right = len(set(thing)) == len(group) and leads_times_to_times(group, thing)
                self.assertIs(is_own_map(group, thing), right)

    def test_groups_of_any_size(self):
        for group in (turning(24), flips(12), swaps(4), grid(2, 12)):
            things = tuple(range(len(group)))
            self.assertIs(is_own_map(group, things), True)
            self.assertIs(is_own_map(group, things[:-2] + (things[-1], things[-2])), False)
            self.assertIs(is_own_map(group, (0,) * len(group)), False)
        self.assertIs(is_own_map(turning(24), tuple(i * 5 % 24 for i in range(24))), True)
        self.assertIs(is_own_map(turning(24), tuple(i * 4 % 24 for i in range(24))), False)
        self.assertIs(is_own_map(turning(24), tuple((i + 1) % 24 for i in range(24))), False)

    def test_a_group_that_is_not_plain_turned_round(self):
        # To undo each thing exchanges the two that are taken times one another.
        for group in (swaps(3), quaternions(), even_swaps(4)):
            self.assertIs(is_own_map(group, tuple(row.index(0) for row in group)), False)
        self.assertIs(is_own_map(turning(9), tuple(row.index(0) for row in turning(9))), True)

    def test_led_from_within(self):
        # Each thing led to x times it times the undone of x.
        for group in (swaps(3), quaternions(), even_swaps(4), swaps(4)):
            for x in range(len(group)):
                own = tuple(group[group[x][thing]][group[x].index(0)] for thing in range(len(group)))
                self.assertIs(is_own_map(group, own), True)

    def test_by_hand(self):
        self.assertIs(is_own_map(turning(4), (0, 1, 2, 3)), True)
        self.assertIs(is_own_map(turning(4), (0, 3, 2, 1)), True)
        self.assertIs(is_own_map(turning(4), (0, 2, 1, 3)), False)
        self.assertIs(is_own_map(turning(4), (1, 2, 3, 0)), False)
        self.assertIs(is_own_map(grid(2, 2), (0, 2, 3, 1)), True)
        self.assertIs(is_own_map(grid(2, 2), (1, 0, 3, 2)), False)
        self.assertIs(is_own_map(turning(1), (0,)), True)
        self.assertIs(is_own_map(turning(1), ()), False)
        self.assertIs(is_own_map(turning(1), (0, 0)), False)
        self.assertIs(is_own_map(turning(2), (0, 1)), True)
        self.assertIs(is_own_map(turning(2), (1, 0)), False)

    def test_two_exchanged_one_told_twice_or_left_out_or_of_another_kind_or_number(self):
        for group in (turning(2), turning(5), turning(6), grid(2, 2), swaps(3), quaternions(), turning(12)):
            right = maps_by_trying(group)
            for own in right[:4] + right[-2:]:
                self.assertIs(is_own_map(group, own), True)
                for other in walks_otherwise(own, group):
                    self.assertIs(is_own_map(group, other), is_among(other, right))

    def test_exchanged_anywhere(self):
        for group in (turning(6), swaps(3), turning(8), turning(12)):
            right = maps_by_trying(group)
            for own in right:
                for i, j in product(range(len(group)), repeat=2):
                    other = list(own)
                    other[i], other[j] = other[j], other[i]
                    self.assertIs(is_own_map(group, tuple(other)), tuple(other) in right)
                    self.assertIs(is_own_map(group, other), False)

    def test_true_and_false_are_no_numbers(self):
        self.assertIs(is_own_map(turning(1), (False,)), False)
        self.assertIs(is_own_map(turning(2), (0, True)), False)
        self.assertIs(is_own_map(turning(2), (False, 1)), False)
        self.assertIs(is_own_map(turning(3), (0, True, 2)), False)
        self.assertIs(is_own_map(turning(3), (0, 2, True)), False)

    def test_numbers_beyond_the_group(self):
        for group in (turning(1), turning(3), turning(12)):
            for other in one_thing_otherwise(tuple(range(len(group))), (len(group), -len(group), -1, 24, 10 ** 30)):
                self.assertIs(is_own_map(group, other), False)

    def test_things_of_all_kinds(self):
        for group in (turning(1), turning(2), swaps(3), turning(24)):
            for thing in values_of_all_kinds():
                right = isinstance(thing, tuple) and is_among(thing, [tuple(range(len(group)))])
                self.assertIs(is_own_map(group, thing), right)
        for shape in ({0: 0, 1: 1}, [0, 1], "01", ("0", "1"), ((0,), (1,)), (0, [1]), (0, None), (0, {}), {}):
            self.assertIs(is_own_map(turning(2), shape), False)


class Point80OwnMaps(unittest.TestCase):
    def test_small_groups(self):
        for group in small_groups():
            self.assertEqual(own_maps(group), maps_of_all_orders(group))

    def test_groups_of_eight_to_twelve_things(self):
        between = [turning(9), grid(3, 3), turning(10), flips(5), turning(11)]
        for group in groups_of_eight() + between + groups_of_twelve():
            self.assertEqual(own_maps(group), maps_by_trying(group))

    def test_clocks(self):
        for n in range(1, 13):
            self.assertEqual(own_maps(clock(n)), clock_maps(n))

    def test_flips(self):
        self.assertEqual(own_maps(flips(1)), [(0, 1)])
        self.assertEqual(own_maps(flips(2)), [(0,) + order for order in permutations((1, 2, 3))])
        for n in range(3, 7):
            self.assertEqual(own_maps(flips(n)), flips_maps(n))

    def test_groups_put_together(self):
        for one, other, many in ((clock(2), clock(2), 6), (clock(2), clock(3), 2), (clock(2), clock(4), 8),
                                 (clock(3), clock(3), 48), (clock(2), clock(6), 12), (flips(3), clock(2), 12),
                                 (clock(2), flips(3), 12), (clock(1), flips(4), 8), (flips(2), clock(2), 168),
                                 (flips(2), clock(3), 12)):
            both = put_together(one, other)
            self.assertEqual(own_maps(both), maps_by_trying(both))
            self.assertEqual(len(own_maps(both)), many)

    def test_how_many_there_are(self):
        for group, many in ((quaternions(), 24), (even_swaps(4), 24), (twisted(3, 4, 2), 12), (grid(2, 2, 2), 168)):
            self.assertEqual(len(own_maps(group)), many)

    def test_however_the_things_are_named(self):
        for group in renamed_samples():
            self.assertEqual(own_maps(group), maps_by_trying(group))

    def test_rising_and_unlike(self):
        for group in groups_of_eight() + groups_of_twelve() + renamed_samples():
            self.assertEqual(own_maps(group), sorted(set(own_maps(group))))
            self.assertEqual(own_maps(group)[0], tuple(range(len(group))))

    def test_each_is_an_own_map(self):
        for group in groups_of_eight() + groups_of_twelve():
            for own in own_maps(group):
                self.assertIs(is_own_map(group, own), True)

    def test_of_more_than_twelve_things(self):
        for group in groups_of_twelve():
            own_maps(group)
        for group in groups_beyond_twelve():
            with self.assertRaises(TooMany):
                own_maps(group)


class Point80KeepingMaps(unittest.TestCase):
    def test_small_groups_by_all_steps(self):
        for group in small_groups() + groups_of_eight():
            right = maps_by_trying(group)
            for steps in steps_of(group, 3):
                self.assertEqual(keeping_maps(group, steps), keeping(right, steps))

    def test_groups_of_twelve_things(self):
        for group in groups_of_twelve():
            right = maps_by_trying(group)
            for steps in steps_of(group, 2) + [(1, 2, 3), (1, 3, 5, 7, 9), (1, 3, 5, 7, 11), (7, 8, 9, 10, 11)]:
                self.assertEqual(keeping_maps(group, steps), keeping(right, steps))

    def test_all_some_and_but_the_one_that_changes_nothing(self):
        self.assertEqual(keeping_maps(turning(8), ()), own_maps(turning(8)))
        self.assertEqual(keeping_maps(turning(8), (4,)), own_maps(turning(8)))
        self.assertEqual(keeping_maps(turning(8), (1, 3, 5, 7)), own_maps(turning(8)))
        self.assertEqual(keeping_maps(turning(8), (1, 3)),
                         [(0, 1, 2, 3, 4, 5, 6, 7), (0, 3, 6, 1, 4, 7, 2, 5)])
        self.assertEqual(keeping_maps(turning(8), (2, 3)), [(0, 1, 2, 3, 4, 5, 6, 7)])
        self.assertEqual(keeping_maps(turning(8), (1,)), [(0, 1, 2, 3, 4, 5, 6, 7)])
        self.assertEqual(keeping_maps(turning(1), ()), [(0,)])
        self.assertEqual(keeping_maps(grid(2, 2), (1, 2)), [(0, 1, 2, 3), (0, 2, 1, 3)])

    def test_to_lead_some_of_the_steps_to_steps_is_not_enough(self):
        self.assertEqual(keeping_maps(turning(5), (1, 4)), [(0, 1, 2, 3, 4), (0, 4, 3, 2, 1)])
        self.assertEqual(keeping_maps(turning(5), (1, 2)), [(0, 1, 2, 3, 4)])
        self.assertEqual(keeping_maps(turning(5), (1, 2, 4)), [(0, 1, 2, 3, 4)])

    def test_of_more_than_twelve_things(self):
        for group in groups_of_twelve():
            keeping_maps(group, (1,))
        for group in groups_beyond_twelve():
            for steps in ((), (1,), (1, 2, 3, 4, 5)):
                with self.assertRaises(TooMany):
                    keeping_maps(group, steps)


class Point80Led(unittest.TestCase):
    def test_thing_by_thing(self):
        self.assertEqual(led((0, 3, 2, 1), (1, 1, 2, 0, 3)), (3, 3, 2, 0, 1))
        self.assertEqual(led((0, 1), (1, 0, 1)), (1, 0, 1))
        self.assertEqual(led((0, 2, 3, 1), (3, 2, 1)), (1, 3, 2))

    def test_without_things(self):
        self.assertEqual(led((0,), ()), ())
        self.assertEqual(led((0, 3, 2, 1), ()), ())

    def test_of_sixty_things(self):
        self.assertEqual(led((0, 3, 2, 1), (1, 2, 3) * 20), (3, 2, 1) * 20)
        self.assertEqual(led(tuple(i * 5 % 24 for i in range(24)), (23, 1) * 30), (19, 5) * 30)

    def test_it_is_a_tuple(self):
        self.assertIs(type(led((0, 1), (1,))), tuple)
        self.assertIs(type(led((0, 1), ())), tuple)


class Point81AllRounds(unittest.TestCase):
    def test_small_groups_by_all_steps(self):
        for group in small_groups():
            right = every_round(group)
            for steps in steps_of(group, 5):
                self.assertEqual(all_rounds(group, steps), by_steps(right, steps))

    def test_groups_of_eight_things(self):
        for group in groups_of_eight():
            right = every_round(group)
            for steps in steps_of(group, 2) + [(1, 2, 3), (2, 4, 5, 6), (1, 2, 3, 4, 5), (3, 4, 5, 6, 7)]:
                self.assertEqual(all_rounds(group, steps), by_steps(right, steps))

    def test_by_hand(self):
        self.assertEqual(all_rounds(turning(2), (1,)), [(1, 1)])
        self.assertEqual(all_rounds(turning(3), (1, 2)), [(1, 1, 1), (2, 2, 2)])
        self.assertEqual(all_rounds(grid(2, 2), (1, 2)), [(1, 2, 1, 2), (2, 1, 2, 1)])
        self.assertEqual(all_rounds(turning(4), (1, 2)), [(1, 1, 1, 1)])
        self.assertEqual(all_rounds(turning(4), (1, 2, 3)), [
            (1, 1, 1, 1), (1, 2, 3, 2), (2, 1, 2, 3), (2, 3, 2, 1), (3, 2, 1, 2), (3, 3, 3, 3)])

    def test_groups_of_one_thing(self):
        self.assertEqual(all_rounds(turning(1), ()), [])

    def test_no_steps(self):
        for group in small_groups() + groups_of_eight():
            self.assertEqual(all_rounds(group, ()), [])

    def test_steps_that_do_not_come_to_all(self):
        for group, steps in ((turning(4), (2,)), (turning(6), (2, 4)), (swaps(3), (3, 4)), (grid(2, 2, 2), (1, 2, 3)),
                             (quaternions(), (1, 2, 3))):
            self.assertEqual(all_rounds(group, steps), [])

    def test_of_more_than_eight_things(self):
        for group in groups_beyond_eight():
            for steps in ((), (1,), (1, 2, 3, 4, 5)):
                with self.assertRaises(TooMany):
                    all_rounds(group, steps)


def of_one_kind(group, steps):
    """Each round beside all that it is led to, begun anywhere."""
    beside = {}
    kept_by = keeping(maps_by_trying(group), steps)
    for walk in by_steps(every_round(group), steps):
        there = [tuple(own[thing] for thing in walk) for own in kept_by]
        beside[walk] = sorted({walk[k:] + walk[:k] for walk in there for k in range(len(walk))})
    return beside


class Point82RoundKinds(unittest.TestCase):
    def assert_kinds(self, group, steps):
        beside = of_one_kind(group, steps)
        kinds = round_kinds(group, steps)
        for kind in kinds:
            for walk in kind:
                self.assertEqual(kind, beside[walk])
        self.assertEqual(sorted(walk for kind in kinds for walk in kind), sorted(beside))
        self.assertEqual(kinds, sorted(kinds))

    def test_small_groups_by_all_steps(self):
        for group in small_groups()[:-1]:
            for steps in steps_of(group, 5):
                self.assert_kinds(group, steps)

    def test_groups_of_seven_and_eight_things(self):
        for group in [turning(7)] + groups_of_eight():
            for steps in ((1,), (1, 2), (1, 3), (3, 4), (2, 5), (1, 6), (1, 2, 4), (1, 2, 3), (2, 4, 6), (3, 5, 6),
                          (1, 2, 4, 5), (2, 3, 4, 5)):
                self.assert_kinds(group, steps)

    def test_five_steps_of_eight_things(self):
        self.assert_kinds(grid(2, 2, 2), (1, 2, 4, 6, 7))
        self.assert_kinds(turning(8), (1, 3, 4, 5, 7))

    def test_by_hand(self):
        self.assertEqual(round_kinds(turning(2), (1,)), [[(1, 1)]])
        self.assertEqual(round_kinds(turning(3), (1, 2)), [[(1, 1, 1), (2, 2, 2)]])
        self.assertEqual(round_kinds(grid(2, 2), (1, 2)), [[(1, 2, 1, 2), (2, 1, 2, 1)]])
        # No own map that keeps 1 and 2 exchanges them in the clock of 5.
        self.assertEqual(round_kinds(turning(5), (1, 2)), [[(1, 1, 1, 1, 1)], [(2, 2, 2, 2, 2)]])
        self.assertEqual(round_kinds(turning(5), (1, 4)), [[(1, 1, 1, 1, 1), (4, 4, 4, 4, 4)]])
        # Begun anywhere, though just the own map that changes nothing keeps 1 and 4.
        self.assertEqual(round_kinds(turning(6), (1, 4)), [
            [(1, 1, 1, 1, 1, 1)], [(1, 4, 4, 1, 4, 4), (4, 1, 4, 4, 1, 4), (4, 4, 1, 4, 4, 1)]])
        # Led and begun anywhere.
        self.assertEqual(round_kinds(turning(4), (1, 2, 3)), [
            [(1, 1, 1, 1), (3, 3, 3, 3)], [(1, 2, 3, 2), (2, 1, 2, 3), (2, 3, 2, 1), (3, 2, 1, 2)]])

    def test_groups_of_one_thing(self):
        self.assertEqual(round_kinds(turning(1), ()), [])

    def test_no_rounds(self):
        for group, steps in ((turning(2), ()), (turning(8), ()), (turning(6), (2, 4)), (turning(6), (2, 3)),
                             (quaternions(), (1, 2))):
            self.assertEqual(round_kinds(group, steps), [])

    def test_of_more_than_eight_things(self):
        for group in groups_beyond_eight():
            for steps in ((), (1,), (1, 2, 3, 4, 5)):
                with self.assertRaises(TooMany):
                    round_kinds(group, steps)
