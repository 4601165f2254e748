"""Operations that make lanes of d's lanes too, of predicates or of scalars; each answers the lanes to put."""

from lanewise.bits import cut, has_bit, ones


def three_by_three(action, order, machine):
    """What action makes of each lane of d, a and b."""
    ds = machine.read_lanes(order.d, order.k)
    xs = machine.read_lanes(order.a, order.k)
    ys = machine.read_lanes(order.b, order.k)
    return [action(d, x, y) for d, x, y in zip(ds, xs, ys)]


def funnel_left(order, machine):
    k = order.k
    return three_by_three(lambda d, x, y: cut((((x << k) | y) << (d % k)) >> k, k), order, machine)


def funnel_right(order, machine):
    k = order.k
    return three_by_three(lambda d, x, y: cut(((y << k) | x) >> (d % k), k), order, machine)


def look_up_bits(order, machine):
    every = ones(order.k)

    def looked_up(d, x, y):
        lane = 0
        for index in range(8):
            if has_bit(order.m, index):
                # A side that the index has no bit for is turned, so that its zeros are what's found.
                from_d = d if index & 4 else d ^ every
                from_x = x if index & 2 else x ^ every
                from_y = y if index & 1 else y ^ every
                lane |= from_d & from_x & from_y
        return lane

    return three_by_three(looked_up, order, machine)


def blend(order, machine):
    chosen = machine.read_predicate(order.m)
    xs = machine.read_lanes(order.a, order.k)
    ys = machine.read_lanes(order.b, order.k)
    return [ys[i] if has_bit(chosen, i) else xs[i] for i in range(order.n)]


def repeat_scalar(order, machine):
    return [cut(machine.read_scalar(order.b), order.k)] * order.n


def repeat_predicate(order, machine):
    return [cut(machine.read_predicate(order.b), order.n)] * order.n


def count_up(order, machine):
    first = machine.read_scalar(order.b)
    return [cut(first + i * order.z, order.k) for i in range(order.n)]


def spread_predicate(order, machine):
    chosen = machine.read_predicate(order.b)
    return [ones(order.k) if has_bit(chosen, i) else 0 for i in range(order.n)]


FILLS = {
    25: funnel_left,
    26: funnel_right,
    33: look_up_bits,
    34: blend,
    35: repeat_scalar,
    36: repeat_predicate,
    37: count_up,
    86: spread_predicate,
}


def fill_maker(operation):
    return FILLS.get(operation)
