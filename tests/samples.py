"""Groups made apart from the program, and values of all kinds, for the tests."""

from itertools import accumulate, combinations, permutations, product


def table_by(things, times):
    number = {thing: k for k, thing in enumerate(things)}
    return tuple(tuple(number[times(a, b)] for b in things) for a in things)


def after(p, q):
    return tuple(p[k] for k in q)


def is_even(p):
    return sum(p[i] > p[j] for i in range(len(p)) for j in range(i, len(p))) % 2 == 0


def swaps(n):
    return table_by(list(permutations(range(n))), after)


def even_swaps(n):
    return table_by([p for p in permutations(range(n)) if is_even(p)], after)


QUATERNION_UNITS = {
    ("1", "1"): (1, "1"), ("1", "i"): (1, "i"), ("1", "j"): (1, "j"), ("1", "k"): (1, "k"),
    ("i", "1"): (1, "i"), ("i", "i"): (-1, "1"), ("i", "j"): (1, "k"), ("i", "k"): (-1, "j"),
    ("j", "1"): (1, "j"), ("j", "i"): (-1, "k"), ("j", "j"): (-1, "1"), ("j", "k"): (1, "i"),
    ("k", "1"): (1, "k"), ("k", "i"): (1, "j"), ("k", "j"): (-1, "i"), ("k", "k"): (-1, "1"),
}


def quaternions():
    def times(a, b):
        sign, unit = QUATERNION_UNITS[a[1], b[1]]
        return a[0] * b[0] * sign, unit

    return table_by([(sign, unit) for unit in "1ijk" for sign in (1, -1)], times)


def turning(n):
    return table_by(list(range(n)), lambda a, b: (a + b) % n)


def grid(*sizes):
    def times(a, b):
        return tuple((x + y) % n for x, y, n in zip(a, b, sizes))

    return table_by(list(product(*[range(n) for n in sizes])), times)


def plain_samples():
    return [turning(1), turning(2), turning(3), turning(8), turning(24), grid(2, 2), grid(3, 3), grid(2, 2, 2)]


def other_samples():
    return [swaps(3), quaternions(), even_swaps(4), swaps(4)]


def samples():
    return plain_samples() + other_samples()


def is_closed(group, things):
    return 0 in things and all(group[i][j] in things for i, j in product(things, repeat=2))


def spanned(group, things):
    found = {0, *things}
    while not is_closed(group, found):
        found |= {group[i][j] for i, j in product(found, repeat=2)}
    return tuple(sorted(found))


def all_parts(group):
    # In each of the samples two things, or three, come to any part.
    return sorted({spanned(group, things) for things in product(range(len(group)), repeat=2)} | {
        spanned(group, things) for things in combinations(range(len(group)), 3) if len(group) <= 8})


def nested(depth, wrap):
    thing = 0
    for _ in range(depth):
        thing = wrap(thing)
    return thing


def values_of_all_kinds():
    return [
        0, 1, -1, 7, 10 ** 30, True, False, None, "", "0", "0 1/1 0", "none", [], {}, (), [0], {0: 0}, {0: (0,)},
        (0,), (1,), (None,), ("0",), (True,), (False,), ((),), ([],), ({},), ((), ()), [[0]], ([0],), [(0,)],
        ((None,),), (("0",),), (((0,),),), ((0, 1), None), ((0, 1), 1), ("01", "10"), (0, "1"), (1, None), (1, [1]),
        (1, {1: 1}), (1, (1,)), [1, 1], {"a": [1, (2, None)]}, (0,) * 999, ((0,),) * 25, tuple(range(999)),
        nested(30, lambda thing: (thing,)), nested(30, lambda thing: [thing]), nested(30, lambda thing: {0: thing}),
    ]


def steps_of(group, most):
    """All steps of at most so many things, as rising tuples."""
    found = [()]
    for steps in found:
        if len(steps) < most:
            found.extend(steps + (s,) for s in range(steps[-1] + 1 if steps else 1, len(group)))
    return found


def comes_to(group, walk):
    return list(accumulate(walk, lambda place, thing: group[place][thing], initial=0))


def comes_to_each_once(group, walk):
    return sorted(comes_to(group, walk)) == list(range(len(group)))


def ways_by_trying(group, steps):
    return [walk for walk in product(steps, repeat=len(group) - 1) if comes_to_each_once(group, walk)]


def rounds_by_trying(group, steps):
    if len(group) == 1:
        return []
    tried = product(steps, repeat=len(group))
    return [walk for walk in tried if comes_to_each_once(group, walk[:-1]) and comes_to(group, walk)[-1] == 0]


def walk_between(group, come_to):
    """The walk that has these places."""
    return tuple(group[group[place].index(0)][onward] for place, onward in zip(come_to, come_to[1:]))


def all_ways(group):
    """The ways by whatever steps, rising: one for each order of the things but 0."""
    return sorted(walk_between(group, (0,) + order) for order in permutations(range(1, len(group))))


def every_round(group):
    """The rounds by whatever steps, rising."""
    if len(group) == 1:
        return []
    return sorted(walk_between(group, (0,) + order + (0,)) for order in permutations(range(1, len(group))))


def by_steps(walks, steps):
    return [walk for walk in walks if set(walk) <= set(steps)]


def one_thing_otherwise(walk, things):
    return [walk[:k] + (thing,) + walk[k + 1:] for k in range(len(walk)) for thing in things]


def walks_otherwise(walk, group):
    """The walk with a thing left out, put in, exchanged, or of another kind or number; never the walk itself."""
    others = (-1, *range(len(group) + 1), 24, True, False, None, "1", [1], (1,), {})
    left_out = [walk[:k] + walk[k + 1:] for k in range(len(walk))]
    put_in = [walk[:k] + (thing,) + walk[k:] for k in range(len(walk) + 1) for thing in others]
    swapped = [walk[:k] + (walk[k + 1], walk[k]) + walk[k + 2:] for k in range(len(walk) - 1)]
    found = left_out + put_in + swapped + one_thing_otherwise(walk, others) + [list(walk), dict(enumerate(walk)), None]
    return [other for other in found if repr(other) != repr(walk)]


def is_among(walk, walks):
    # By their texts, for True equals 1.
    return repr(walk) in [repr(other) for other in walks]
