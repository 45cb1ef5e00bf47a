"""Walks lifted from rest groups and woven of two ways; and twisted groups."""

from groupwalks.errors import NoLift, NoTwist, TooMany
from groupwalks.groups import MOST_THINGS, along, are_numbers_below, put_together, table_of, undone
from groupwalks.parts import rest_group, side_numbers, span
from groupwalks.walks import back, comes_round, goes_through, threaded


def is_to_lift(group, part, rest, walk):
    if not are_numbers_below(walk, len(group)) or 0 in walk:
        return False
    numbers = side_numbers(group, part)
    return comes_round(rest, [numbers[thing] for thing in walk]) and span(group, (along(group, walk),)) == part


def lifted(group, part, walk):
    # Made ahead of all else, for it refuses a part that is not level.
    rest = rest_group(group, part)
    if not is_to_lift(group, part, rest, walk):
        raise NoLift("the walk doesn't come to each side once and home, or doesn't span the part")
    return walk * len(part)


def power_rest(r, taken, n):
    # By 1 the rest of 1 is 0.
    power = 1 % n
    while taken > 0:
        power = power * r % n
        taken -= 1
    return power


def twisted(n, m, r):
    if n * m > MOST_THINGS:
        raise TooMany(f"the twisted group has more than {MOST_THINGS} things")
    if power_rest(r, m, n) != 1 % n:
        raise NoTwist("r taken m times by itself is not 1")
    powers = [power_rest(r, j, n) for j in range(m)]

    def times(one, other):
        turned = (one // m + powers[one % m] * (other // m)) % n
        return turned * m + (one % m + other % m) % m

    return table_of(n * m, times)


def refuse_no_ways(one, way, other, other_way):
    if not goes_through(one, way) or not goes_through(other, other_way):
        raise NoLift("not each of the two comes to each thing of its group just once")


def steps_of_one(way, other):
    return tuple([step * len(other) for step in way])


def woven(one, way, other, other_way):
    both = put_together(one, other)
    refuse_no_ways(one, way, other, other_way)
    # The other one's things have the same numbers in both put together.
    return threaded(both, other_way, steps_of_one(way, other), other_way)


def woven_round(one, way, other, other_way):
    both = put_together(one, other)
    refuse_no_ways(one, way, other, other_way)
    if len(one) % 2 == 1 or len(other) < 2:
        raise NoLift("the one has an odd number of things, or the other one has a single thing")
    steps = steps_of_one(way, other)
    walk = threaded(both, other_way, steps, other_way[1:])
    return walk + (undone(both, other_way[0]),) + back(both, steps)
