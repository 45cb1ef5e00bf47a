import unittest

from groupwalks.errors import NotPlain
from groupwalks.groups import clock, flips, put_together
from groupwalks.lifts import twisted
from groupwalks.snakes import home, snake
from samples import comes_to, grid, other_samples, plain_samples, spanned, steps_of, turning, walk_between


def small_plain_groups():
    return [turning(n) for n in range(1, 13)] + [grid(2, 2), grid(2, 4), grid(2, 2, 2), grid(3, 3), grid(2, 2, 3)]


def large_plain_groups():
    return [turning(16), turning(23), turning(24), grid(4, 4), grid(2, 2, 2, 2), grid(2, 12), grid(2, 2, 6), grid(5, 4)]


def some_steps(group):
    top = len(group)
    return [steps for steps in (
        (1, 2, 3, 4, 5), (2, 3), (3, 4, 6), (4, 6, 9), (2, 4, 8), (1, 2, 4, 8), (6, 9, 11), (top - 2, top - 1),
        (8, 12), (5, 10, 15), (3, 13), (7, 9, 10, 14),
    ) if 0 < steps[0] and steps[-1] < top]


def times(group, thing, taken):
    return comes_to(group, (thing,) * taken)[-1]


def snake_places(group, steps):
    """The places, made of copies of the ones so far, each copy moved by one step more and every other one turned."""
    so_far = [0]
    for step in steps:
        copies = min(m for m in range(1, len(group) + 1) if times(group, step, m) in so_far)
        moved = []
        for k in range(copies):
            there = [group[times(group, step, k)][place] for place in so_far]
            moved += there[::-1] if k % 2 else there
        so_far = moved
    return so_far


def undone_of(group, thing):
    return group[thing].index(0)


class Point70Snakes(unittest.TestCase):
    def test_by_hand(self):
        self.assertEqual(snake(turning(6), (1,)), (1, 1, 1, 1, 1))
        self.assertEqual(snake(turning(6), (2,)), (2, 2))
        self.assertEqual(snake(turning(6), (2, 3)), (2, 2, 3, 4, 4))
        self.assertEqual(snake(turning(6), (3, 4)), (3, 4, 3, 4, 3))
        self.assertEqual(snake(turning(4), (2, 3)), (2, 3, 2))
        self.assertEqual(snake(turning(9), (3, 4)), (3, 3, 4, 6, 6, 4, 3, 3))
        self.assertEqual(snake(turning(12), (4, 6)), (4, 4, 6, 8, 8))
        self.assertEqual(snake(grid(2, 2), (1, 2)), (1, 2, 1))
        self.assertEqual(snake(grid(2, 2, 2), (1, 2, 4)), (1, 2, 1, 4, 1, 2, 1))
        self.assertEqual(snake(put_together(clock(2), clock(3)), (1, 3)), (1, 1, 3, 2, 2))
        self.assertEqual(snake(put_together(clock(3), clock(3)), (1, 3)), (1, 1, 3, 2, 2, 3, 1, 1))

    def test_small_groups_by_all_steps(self):
        for group in small_plain_groups():
            for steps in steps_of(group, 3):
                self.assertEqual(snake(group, steps), walk_between(group, snake_places(group, steps)))

    def test_large_groups(self):
        for group in large_plain_groups():
            for steps in steps_of(group, 2) + some_steps(group):
                self.assertEqual(snake(group, steps), walk_between(group, snake_places(group, steps)))

    def test_the_places_are_unlike_and_all_to_which_the_steps_come(self):
        for group in small_plain_groups() + large_plain_groups():
            for steps in steps_of(group, 2) + some_steps(group):
                self.assertEqual(sorted(comes_to(group, snake(group, steps))), list(spanned(group, steps)))

    def test_it_goes_by_steps_and_undone_ones(self):
        for group in small_plain_groups():
            for steps in steps_of(group, 3):
                allowed = set(steps) | {undone_of(group, step) for step in steps}
                self.assertLessEqual(set(snake(group, steps)), allowed)

    def test_no_steps(self):
        for group in plain_samples():
            self.assertEqual(snake(group, ()), ())

    def test_a_group_of_one_thing(self):
        self.assertEqual(snake(turning(1), ()), ())

    def test_one_step_is_taken_till_it_would_be_home(self):
        for group in plain_samples():
            for step in range(1, len(group)):
                self.assertEqual(snake(group, (step,)), (step,) * (len(spanned(group, (step,))) - 1))

    def test_a_step_that_lies_on_the_snake_already_changes_nothing(self):
        self.assertEqual(snake(turning(6), (1, 2, 3, 4, 5)), (1,) * 5)
        self.assertEqual(snake(turning(12), (2, 4, 6, 8, 10)), (2,) * 5)
        self.assertEqual(snake(turning(12), (4, 6, 10)), snake(turning(12), (4, 6)))
        self.assertEqual(snake(turning(12), (4, 6, 10, 11)), snake(turning(12), (4, 6, 11)))
        self.assertEqual(snake(grid(2, 2), (1, 2, 3)), (1, 2, 1))

    def test_a_step_and_its_undone(self):
        self.assertEqual(snake(turning(5), (1, 4)), (1, 1, 1, 1))
        self.assertEqual(snake(turning(5), (2, 3)), (2, 2, 2, 2))
        self.assertEqual(snake(turning(6), (2, 3, 4)), (2, 2, 3, 4, 4))
        self.assertEqual(snake(turning(12), (3, 4, 8, 9)), snake(turning(12), (3, 4)))

    def test_the_product_of_a_step_may_be_a_place_other_than_0(self):
        # 3 taken twice is 6 in the clock of 8, which lies on the snake by 2.
        self.assertEqual(snake(turning(8), (2, 3)), (2, 2, 2, 3, 6, 6, 6))
        self.assertEqual(snake(turning(8), (4, 6)), (4, 6, 4))
        # It takes 5 three times, not two, to come to 0, 3 or 6 in the clock of 9.
        self.assertEqual(snake(turning(9), (3, 5)), (3, 3, 5, 6, 6, 5, 3, 3))

    def test_the_order_of_the_tuple(self):
        self.assertEqual(snake(turning(6), (2, 3)), (2, 2, 3, 4, 4))
        self.assertNotEqual(snake(turning(6), (2, 3)), walk_between(turning(6), snake_places(turning(6), (3, 2))))
        # The same group, its 2 and 3 named the other way round: now the step taken twice comes first.
        order = (0, 1, 3, 2, 4, 5)
        renamed = tuple(tuple(order.index(turning(6)[i][j]) for j in order) for i in order)
        self.assertEqual(snake(renamed, (2, 3)), (2, 3, 2, 3, 2))

    def test_groups_that_are_not_plain(self):
        for group in other_samples() + [flips(3), flips(4), flips(12), twisted(3, 4, 2)]:
            for steps in ((), (1,), (1, 2), (1, 2, 3, 4, 5)):
                with self.assertRaises(NotPlain):
                    snake(group, steps)

    def test_plain_groups_are_not_refused_for_how_they_were_made(self):
        self.assertEqual(snake(flips(1), (1,)), (1,))
        self.assertEqual(snake(flips(2), (1, 2)), (1, 2, 1))
        self.assertEqual(snake(twisted(3, 2, 1), (1, 2)), (1, 2, 1, 2, 1))


class Point71Home(unittest.TestCase):
    def test_by_a_step(self):
        self.assertEqual(home(turning(2), (1,)), 1)
        self.assertEqual(home(turning(6), (1,)), 1)
        self.assertEqual(home(turning(6), (5,)), 5)
        self.assertEqual(home(turning(6), (2,)), 2)
        self.assertEqual(home(turning(6), (2, 3)), 3)
        self.assertEqual(home(turning(9), (3, 4)), 4)
        self.assertEqual(home(grid(2, 2, 2), (1, 2, 4)), 4)

    def test_by_the_undone_of_a_step(self):
        self.assertEqual(home(turning(4), (2, 3)), 1)
        self.assertEqual(home(turning(6), (3, 4, 5)), 1)
        self.assertEqual(home(turning(8), (2, 3)), 5)
        self.assertEqual(home(turning(8), (4, 6)), 2)

    def test_by_none(self):
        self.assertIsNone(home(turning(6), (3, 4)))
        self.assertIsNone(home(grid(3, 3), (1, 3)))
        self.assertIsNone(home(turning(15), (3, 5)))

    def test_small_groups_by_all_steps(self):
        for group in small_plain_groups():
            for steps in steps_of(group, 3):
                last = snake_places(group, steps)[-1]
                things = [thing for step in steps for thing in (step, undone_of(group, step))]
                by = [thing for thing in things if group[last][thing] == 0]
                self.assertEqual(home(group, steps), by[0] if by else None)

    def test_a_snake_without_things(self):
        for group in plain_samples():
            self.assertIsNone(home(group, ()))

    def test_groups_that_are_not_plain(self):
        for group in other_samples() + [flips(3), flips(4), flips(12), twisted(3, 4, 2)]:
            for steps in ((), (1,), (1, 2), (1, 2, 3, 4, 5)):
                with self.assertRaises(NotPlain):
                    home(group, steps)

    def test_kinds(self):
        self.assertIs(type(home(turning(6), (2, 3))), int)
        self.assertIs(type(snake(turning(6), ())), tuple)
        self.assertIs(type(snake(turning(6), (2, 3))), tuple)
