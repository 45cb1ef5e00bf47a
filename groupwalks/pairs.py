"""Walks by just two steps: which of them each side takes tells all rounds."""

from groupwalks.errors import TooMany
from groupwalks.groups import all_things, order_of, undone
from groupwalks.parts import left_sides, pieces, span
from groupwalks.walks import all_walks

MOST_SIDES = 10


def turn_of(group, steps):
    return group[steps[0]][undone(group, steps[1])]


def sides(group, steps):
    # The powers of the turn are what it spans.
    return left_sides(group, span(group, (turn_of(group, steps),)))


def chosen_steps(group, steps, choice):
    chosen = {}
    for side, which in zip(sides(group, steps), choice):
        for thing in side:
            chosen[thing] = steps[which]
    return chosen


def ring_from(group, chosen, first):
    ring = [first]
    onward = group[first][chosen[first]]
    while onward != first:
        ring.append(onward)
        onward = group[onward][chosen[onward]]
    return tuple(ring)


def rings(group, steps, choice):
    chosen = chosen_steps(group, steps, choice)
    return pieces(all_things(group), lambda least: ring_from(group, chosen, least))


def walk_of(group, steps, choice):
    chosen = chosen_steps(group, steps, choice)
    ring = ring_from(group, chosen, 0)
    return tuple([chosen[thing] for thing in ring]) if len(ring) == len(group) else None


def all_rounds_of_two(group, steps):
    many = len(sides(group, steps))
    if many > MOST_SIDES:
        raise TooMany(f"there are more than {MOST_SIDES} sides")
    walks = [walk_of(group, steps, choice) for choice in all_walks((0, 1), many)]
    return sorted([walk for walk in walks if walk is not None])


def is_barred(group, steps):
    return order_of(group, turn_of(group, steps)) % 2 == 1 and len(group) // order_of(group, steps[0]) % 2 == 0
