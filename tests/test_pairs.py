import unittest
from itertools import combinations, product

from groupwalks.errors import TooMany
from groupwalks.groups import flips
from groupwalks.pairs import all_rounds_of_two, is_barred, rings, sides, walk_of
from groupwalks.walks import is_round
from samples import comes_to, even_swaps, grid, quaternions, rounds_by_trying, samples, swaps, turning


def small_groups():
    return [turning(3), turning(4), grid(2, 2), turning(5), turning(6), swaps(3), turning(8), quaternions(),
            grid(2, 4), grid(2, 2, 2)]


def pairs_of(group):
    return list(combinations(range(1, len(group)), 2))


def powers(group, thing):
    found = [0]
    while group[found[-1]][thing] != 0:
        found.append(group[found[-1]][thing])
    return found


def turn(group, steps):
    return group[steps[0]][group[steps[1]].index(0)]


def sides_by_trying(group, steps):
    taken = powers(group, turn(group, steps))
    return sorted({tuple(sorted(group[x][power] for power in taken)) for x in range(len(group))})


def choices(group, steps):
    return product((0, 1), repeat=len(sides_by_trying(group, steps)))


def onward_by(group, steps, choice):
    return {thing: group[thing][steps[which]] for side, which in zip(sides_by_trying(group, steps), choice) for thing in
            side}


def rounds_by_looking(group, steps):
    """All rounds, found thing by thing, without a look at the sides."""
    found, walks = [], [((), (0,))]
    while walks:
        walk, come_to = walks.pop()
        for step in steps:
            place = group[come_to[-1]][step]
            if place not in come_to:
                walks.append((walk + (step,), come_to + (place,)))
            elif place == 0 and len(come_to) == len(group):
                found.append(walk + (step,))
    return sorted(found)


class Point50Sides(unittest.TestCase):
    def test_all_pairs_of_all_samples(self):
        for group in samples() + [flips(12), grid(2, 12)]:
            for steps in pairs_of(group):
                self.assertEqual(sides(group, steps), sides_by_trying(group, steps))

    def test_turns_of_order_two_and_more(self):
        self.assertEqual(sides(turning(6), (1, 4)), [(0, 3), (1, 4), (2, 5)])
        self.assertEqual(sides(turning(6), (1, 3)), [(0, 2, 4), (1, 3, 5)])
        self.assertEqual(sides(turning(6), (2, 3)), [(0, 1, 2, 3, 4, 5)])
        self.assertEqual(sides(swaps(3), (1, 2)), [(0, 3, 4), (1, 2, 5)])
        # The turn is 1 times 4, which is 2: the part of 0 and 2 is not level, and the sides are its left ones.
        self.assertEqual(sides(swaps(3), (1, 3)), [(0, 2), (1, 4), (3, 5)])
        self.assertEqual(sides(turning(24), (1, 13)), [(k, k + 12) for k in range(12)])
        self.assertEqual(sides(turning(3), (1, 2)), [(0, 1, 2)])

    def test_no_turn_has_the_order_one(self):
        # The two steps are unlike, so that their turn is never 0.
        for group in samples():
            for steps in pairs_of(group):
                self.assertGreaterEqual(min(len(side) for side in sides(group, steps)), 2)

    def test_the_lists_are_the_askers_own(self):
        first = sides(turning(6), (1, 4))
        first.append((0,))
        first[0] = None
        self.assertEqual(sides(turning(6), (1, 4)), [(0, 3), (1, 4), (2, 5)])


class Point51Rings(unittest.TestCase):
    def test_all_choices_of_small_groups(self):
        for group in small_groups():
            for steps in pairs_of(group):
                for choice in choices(group, steps):
                    onward = onward_by(group, steps, choice)
                    self.check_rings(group, rings(group, steps, choice), onward)

    def check_rings(self, group, told, onward):
        self.assertEqual(sorted(thing for ring in told for thing in ring), list(range(len(group))))
        self.assertEqual([ring[0] for ring in told], sorted(min(ring) for ring in told))
        for ring in told:
            self.assertIs(type(ring), tuple)
            self.assertEqual([onward[thing] for thing in ring], list(ring[1:] + ring[:1]))

    def test_choices_of_all_0_and_all_1(self):
        # Each thing goes on by one and the same step.
        for group in samples():
            for steps in pairs_of(group):
                many = len(sides_by_trying(group, steps))
                for which in (0, 1):
                    told = rings(group, steps, (which,) * many)
                    around = powers(group, steps[which])
                    self.assertEqual(told[0], tuple(around))
                    self.assertEqual({len(ring) for ring in told}, {len(around)})
                    walk = (steps[which],) * len(group) if len(around) == len(group) else None
                    self.assertEqual(walk_of(group, steps, (which,) * many), walk)

    def test_by_hand(self):
        self.assertEqual(rings(turning(4), (1, 3), (0, 1)), [(0, 1), (2, 3)])
        self.assertEqual(rings(turning(4), (1, 3), (1, 0)), [(0, 3), (1, 2)])
        self.assertEqual(rings(turning(4), (1, 3), (0, 0)), [(0, 1, 2, 3)])
        self.assertEqual(rings(turning(4), (1, 3), (1, 1)), [(0, 3, 2, 1)])
        self.assertEqual(rings(turning(6), (2, 4), (0, 1)), [(0, 2, 4), (1, 5, 3)])
        self.assertEqual(walk_of(turning(4), (1, 3), (1, 1)), (3, 3, 3, 3))
        self.assertIsNone(walk_of(turning(4), (1, 3), (0, 1)))
        self.assertEqual(walk_of(turning(6), (1, 4), (0, 1, 1)), (1, 4, 4, 1, 4, 4))
        self.assertEqual(walk_of(swaps(3), (1, 2), (0, 1)), (1, 2, 1, 2, 1, 2))

    def test_the_walk_of_a_choice(self):
        for group in small_groups():
            for steps in pairs_of(group):
                for choice in choices(group, steps):
                    told = walk_of(group, steps, choice)
                    onward = onward_by(group, steps, choice)
                    ring = [0]
                    while onward[ring[-1]] != 0:
                        ring.append(onward[ring[-1]])
                    if len(ring) < len(group):
                        self.assertIsNone(told)
                    else:
                        self.assertIs(type(told), tuple)
                        self.assertEqual(comes_to(group, told), ring + [0])

    def test_the_lists_are_the_askers_own(self):
        first = rings(turning(4), (1, 3), (0, 1))
        first.clear()
        self.assertEqual(rings(turning(4), (1, 3), (0, 1)), [(0, 1), (2, 3)])


class Point51AllRounds(unittest.TestCase):
    def test_all_pairs_of_small_groups(self):
        for group in small_groups():
            for steps in pairs_of(group):
                self.assertEqual(all_rounds_of_two(group, steps), rounds_by_trying(group, steps))

    def test_pairs_of_twelve_things_and_more(self):
        for group in (turning(12), grid(2, 6), even_swaps(4), flips(6), flips(7), turning(15)):
            for steps in pairs_of(group)[::4]:
                self.assertEqual(all_rounds_of_two(group, steps), rounds_by_looking(group, steps))

    def test_by_hand(self):
        self.assertEqual(all_rounds_of_two(turning(3), (1, 2)), [(1, 1, 1), (2, 2, 2)])
        self.assertEqual(all_rounds_of_two(turning(4), (1, 3)), [(1, 1, 1, 1), (3, 3, 3, 3)])
        self.assertEqual(all_rounds_of_two(grid(2, 2), (1, 2)), [(1, 2, 1, 2), (2, 1, 2, 1)])
        self.assertEqual(all_rounds_of_two(turning(6), (2, 3)), [])
        self.assertEqual(all_rounds_of_two(turning(6), (2, 4)), [])

    def test_just_ten_sides(self):
        for group, steps in ((turning(20), (1, 11)), (grid(2, 10), (1, 11)), (flips(10), (10, 15)),
                             (flips(10), (1, 10))):
            self.assertEqual(len(sides(group, steps)), 10)
            told = all_rounds_of_two(group, steps)
            self.assertEqual(told, rounds_by_looking(group, steps))
            for walk in told:
                self.assertIs(is_round(group, steps, walk), True)
        self.assertEqual(len(all_rounds_of_two(turning(20), (1, 11))), 512)

    def test_fewer_sides_of_24_things(self):
        for group, steps, many in ((swaps(4), (1, 2), 8), (turning(24), (1, 9), 8), (turning(24), (1, 2), 1)):
            self.assertEqual(len(sides(group, steps)), many)
            self.assertEqual(all_rounds_of_two(group, steps), rounds_by_looking(group, steps))

    def test_eleven_sides_and_more(self):
        for group, steps, many in ((turning(22), (1, 12), 11), (flips(11), (1, 11), 11), (turning(24), (1, 13), 12),
                                   (swaps(4), (1, 6), 12), (flips(12), (12, 18), 12)):
            self.assertEqual(len(sides(group, steps)), many)
            with self.assertRaises(TooMany):
                all_rounds_of_two(group, steps)

    def test_what_is_asked_of_one_choice_is_told_of_twelve_sides_too(self):
        self.assertEqual(len(rings(turning(24), (1, 13), (0,) * 11 + (1,))), 2)
        self.assertEqual(walk_of(turning(24), (1, 13), (1,) * 12), (13,) * 24)
        self.assertIs(is_barred(turning(24), (1, 13)), False)

    def test_the_lists_are_the_askers_own(self):
        first = all_rounds_of_two(turning(3), (1, 2))
        first.pop()
        self.assertEqual(all_rounds_of_two(turning(3), (1, 2)), [(1, 1, 1), (2, 2, 2)])


class Point52BarredPairs(unittest.TestCase):
    def test_all_pairs_of_all_samples(self):
        barred = 0
        for group in samples():
            for steps in pairs_of(group):
                odd = len(powers(group, turn(group, steps))) % 2 == 1
                even = len(group) // len(powers(group, steps[0])) % 2 == 0
                self.assertIs(is_barred(group, steps), odd and even)
                barred += odd and even
        self.assertGreater(barred, 100)

    def test_whatever_the_choice_the_rings_of_a_barred_pair_are_even(self):
        for group in (turning(6), swaps(3), even_swaps(4), turning(12), grid(2, 6), flips(6)):
            for steps in pairs_of(group):
                if is_barred(group, steps) and len(sides(group, steps)) <= 6:
                    self.assertEqual(all_rounds_of_two(group, steps), [])
                    for choice in choices(group, steps):
                        self.assertEqual(len(rings(group, steps, choice)) % 2, 0)

    def test_by_hand(self):
        # The turn has the order 3; as many things divided by the order of the lesser step are 4, 6 and 2.
        self.assertIs(is_barred(turning(12), (4, 8)), True)
        self.assertIs(is_barred(turning(12), (6, 10)), True)
        self.assertIs(is_barred(turning(6), (2, 4)), True)
        # An odd number of things divided.
        self.assertIs(is_barred(turning(6), (1, 3)), False)
        self.assertIs(is_barred(swaps(3), (1, 2)), False)
        self.assertIs(is_barred(turning(3), (1, 2)), False)
        # A turn of even order.
        self.assertIs(is_barred(turning(6), (2, 3)), False)
        self.assertIs(is_barred(grid(2, 2), (1, 2)), False)
