"""Groups as tuples of rows: what row i has at j is i times j, and 0 changes nothing."""

from groupwalks.errors import TooMany

MOST_THINGS = 24


def is_number_below(value, many):
    # True and False pass for 1 and 0 among Python's numbers, but are none here.
    return isinstance(value, int) and not isinstance(value, bool) and 0 <= value < many


def are_numbers_below(value, many):
    return isinstance(value, tuple) and all([is_number_below(one, many) for one in value])


def is_table(thing):
    if not isinstance(thing, tuple) or not 1 <= len(thing) <= MOST_THINGS:
        return False
    many = len(thing)
    return all([are_numbers_below(row, many) and len(row) == many for row in thing])


def is_unchanged_by_zero(table, i):
    return table[0][i] == i and table[i][0] == i


def has_undone(table, i):
    return any([table[i][j] == 0 and table[j][i] == 0 for j in range(len(table))])


def binds_alike(table, i, j):
    product = table[table[i][j]]
    return all([product[k] == table[i][table[j][k]] for k in range(len(table))])


def is_group(thing):
    if not is_table(thing):
        return False
    for i in range(len(thing)):
        if not is_unchanged_by_zero(thing, i) or not has_undone(thing, i):
            return False
        if not all([binds_alike(thing, i, j) for j in range(len(thing))]):
            return False
    return True


def all_things(group):
    return tuple(range(len(group)))


def along(group, things):
    product = 0
    for thing in things:
        product = group[product][thing]
    return product


def undone(group, thing):
    # In a group what undoes a thing from the right undoes it from the left too.
    return group[thing].index(0)


def order_of(group, thing):
    product = thing
    taken = 1
    while product != 0:
        product = group[product][thing]
        taken += 1
    return taken


def is_plain(group):
    for i in range(len(group)):
        if not all([group[i][j] == group[j][i] for j in range(i)]):
            return False
    return True


def table_of(many, times):
    rows = []
    for i in range(many):
        rows.append(tuple([times(i, j) for j in range(many)]))
    return tuple(rows)


def clock(n):
    return table_of(n, lambda i, j: (i + j) % n)


def flips(n):
    def times(i, j):
        # A flip in front turns what follows the other way round.
        turned = i - j if i >= n else i + j
        flipped = (i >= n) != (j >= n)
        return turned % n + (n if flipped else 0)

    return table_of(2 * n, times)


def put_together(one, other):
    m = len(other)
    if len(one) * m > MOST_THINGS:
        raise TooMany(f"both groups put together have more than {MOST_THINGS} things")
    return table_of(len(one) * m, lambda i, j: one[i // m][j // m] * m + other[i % m][j % m])


def named(group, order):
    return table_of(len(group), lambda i, j: order.index(group[order[i]][order[j]]))
