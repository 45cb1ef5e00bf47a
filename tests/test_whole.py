"""What the document promises across the modules."""

import unittest

from groupwalks.desk import Desk
from groupwalks.errors import TooMany
from groupwalks.found import least_round, least_way, longest_walk, rounds_many, ways_many
from groupwalks.groups import clock, flips, put_together
from groupwalks.lifts import woven, woven_round
from groupwalks.maps import all_rounds, keeping_maps, led, own_maps, round_kinds
from groupwalks.notes import group_read, group_text, walk_read, walk_text
from groupwalks.pairs import all_rounds_of_two, is_barred
from groupwalks.snakes import home, snake
from groupwalks.walks import back, begun_at, is_round, is_way, undone_steps
from samples import even_swaps, grid, quaternions, steps_of, swaps, turning

# From how many things on each of these is refused, be there steps or not.
BOUNDS = (
    (least_way, 13), (least_round, 13), (ways_many, 9), (rounds_many, 9), (longest_walk, 9), (keeping_maps, 13),
    (all_rounds, 9), (round_kinds, 9), (lambda group, steps: own_maps(group), 13),
)


def groups_to_count():
    return [turning(1), turning(2), turning(3), turning(4), grid(2, 2), turning(5), turning(6), swaps(3), turning(7),
            turning(8), grid(2, 4), grid(2, 2, 2), quaternions(), flips(4)]


def groups_to_find():
    return groups_to_count() + [turning(9), grid(3, 3), turning(10), flips(5), turning(11), turning(12), grid(2, 6),
                                even_swaps(4), flips(6)]


def desk_of(group):
    desk = Desk()
    desk.say("group a " + group_text(group))
    return desk


def ask(desk, word, steps):
    return desk.say(" ".join([word, "a"] + [str(step) for step in steps]))


class TheSameWalk(unittest.TestCase):
    def test_the_least_way_by_desk_by_found_and_by_walks(self):
        for group in groups_to_find():
            desk = desk_of(group)
            for steps in steps_of(group, 2):
                way = least_way(group, steps)
                self.assertEqual(walk_read(ask(desk, "way", steps)), way or ())
                self.assertIs(is_way(group, steps, way), way is not None)
                if way is not None:
                    self.assertEqual(ask(desk, "kind", steps + (":", walk_text(way))), "way")
                    self.assertIs(is_way(group, undone_steps(group, steps), back(group, way)), True)

    def test_the_least_round_by_desk_by_found_by_maps_and_by_walks(self):
        for group in groups_to_find():
            desk = desk_of(group)
            for steps in steps_of(group, 2):
                walk = least_round(group, steps)
                self.assertEqual(walk_read(ask(desk, "round", steps)), walk or ())
                self.assertIs(is_round(group, steps, walk), walk is not None)
                if walk is not None:
                    self.assertEqual(ask(desk, "kind", steps + (":", walk_text(walk))), "round")
                if len(group) <= 8:
                    self.assertEqual(all_rounds(group, steps)[:1], [] if walk is None else [walk])

    def test_how_many_rounds_by_desk_by_found_and_by_maps(self):
        for group in groups_to_count():
            desk = desk_of(group)
            for steps in steps_of(group, 2) + [steps for steps in ((1, 2, 3), (2, 3, 4, 5)) if steps[-1] < len(group)]:
                rounds = all_rounds(group, steps)
                self.assertEqual(len(rounds), rounds_many(group, steps))
                self.assertEqual(str(len(rounds)), ask(desk, "rounds", steps))
                self.assertEqual(sum(len(kind) for kind in round_kinds(group, steps)), len(rounds))
                for walk in rounds:
                    self.assertIs(is_round(group, steps, walk), True)

    def test_the_rounds_of_pairs_and_of_maps_of_the_same_two_steps(self):
        for group in groups_to_count():
            desk = desk_of(group)
            for steps in [steps for steps in steps_of(group, 2) if len(steps) == 2]:
                self.assertEqual(all_rounds_of_two(group, steps), all_rounds(group, steps))
                self.assertEqual(ask(desk, "two", steps), ask(desk, "rounds", steps))
                if is_barred(group, steps):
                    self.assertEqual(round_kinds(group, steps), [])

    def test_kinds_hold_what_they_are_led_to_and_begun_at(self):
        for group, steps in ((turning(6), (1, 4)), (turning(8), (1, 3, 5)), (quaternions(), (2, 4)), (flips(4), (4, 5)),
                             (grid(2, 2, 2), (1, 2, 4)), (turning(7), (1, 2, 4))):
            for kind in round_kinds(group, steps):
                for own in keeping_maps(group, steps):
                    for k in range(len(group)):
                        self.assertEqual(sorted(begun_at(led(own, walk), k) for walk in kind), kind)

    def test_a_snake_that_comes_home_is_a_round_by_steps_and_undone_ones(self):
        for group in (turning(2), turning(6), grid(2, 2), turning(8), grid(2, 2, 2), turning(9), grid(3, 3),
                      turning(24)):
            for steps in steps_of(group, 2):
                both_ways = tuple(sorted(set(steps + undone_steps(group, steps))))
                walk, last = snake(group, steps), home(group, steps)
                if len(walk) == len(group) - 1:
                    self.assertIs(is_way(group, both_ways, walk), True)
                    if last is not None:
                        self.assertIs(is_round(group, both_ways, walk + (last,)), True)

    def test_a_snake_by_one_step_of_each_is_woven(self):
        for n in range(2, 13):
            for m in range(2, 24 // n + 1):
                both = put_together(clock(n), clock(m))
                walk = woven(clock(n), (1,) * (n - 1), clock(m), (1,) * (m - 1))
                self.assertEqual(snake(both, (1, m)), walk)
                self.assertEqual(home(both, (1, m)), m if n % 2 == 0 else None)
                if n % 2 == 0:
                    self.assertIs(is_round(both, (1, m - 1, m, (n - 1) * m), woven_round(
                        clock(n), (1,) * (n - 1), clock(m), (1,) * (m - 1))), True)

    def test_groups_by_desk_by_notes_and_by_groups(self):
        desk = Desk()
        desk.say("clock c 4")
        desk.say("flips f 3")
        desk.say("both c f b")
        self.assertEqual(group_read(desk.say("show c")), clock(4))
        self.assertEqual(group_read(desk.say("show f")), flips(3))
        self.assertEqual(group_read(desk.say("show b")), put_together(clock(4), flips(3)))


class Bounds(unittest.TestCase):
    def test_just_within_and_just_beyond(self):
        for told, least_refused in BOUNDS:
            for steps in ((), (1,)):
                told(turning(least_refused - 1), steps)
                for many in (least_refused, least_refused + 1, 24):
                    with self.assertRaises(TooMany):
                        told(turning(many), steps)
