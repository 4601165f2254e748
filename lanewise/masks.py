"""Predicates' own arithmetic, and what passes between them and scalars or flags."""

from lanewise.bits import count_ones, cut, gather_bits, ones


def bits_and(x, y, order):
    return x & y


def bits_or(x, y, order):
    return x | y


def bits_exclusive(x, y, order):
    return x ^ y


def bits_alike(x, y, order):
    return ~(x ^ y)


def bits_not_and(x, y, order):
    return ~x & y


def bits_not(x, y, order):
    return ~x


def add(x, y, order):
    return x + y


def shift_left(x, y, order):
    return x << (order.m % 256)


def shift_right(x, y, order):
    return x >> (order.m % 256)


def lay_above(x, y, order):
    half = order.k // 2
    return (cut(x, half) << half) | cut(y, half)


PREDICATE_PAIRS = {
    90: bits_and,
    91: bits_or,
    92: bits_exclusive,
    93: bits_alike,
    94: bits_not_and,
    95: bits_not,
    96: add,
    97: shift_left,
    98: shift_right,
    99: lay_above,
}


def lowest_of(number, order, machine):
    """A predicate's lowest k bits."""
    return cut(machine.read_predicate(number), order.k)


def pair_predicates(order, machine):
    action = PREDICATE_PAIRS.get(order.operation)
    made = action(lowest_of(order.a, order, machine), lowest_of(order.b, order, machine), order)
    machine.put_predicate(order.d, cut(made, order.k))


def somewhere_in(xs, ys):
    return gather_bits([x in ys for x in xs])


def intersect(order, machine):
    xs = machine.read_lanes(order.a, order.k)
    ys = machine.read_lanes(order.b, order.k)
    even = order.d // 2 * 2
    machine.put_predicate(even, somewhere_in(xs, ys))
    machine.put_predicate(even + 1, somewhere_in(ys, xs))


def predicate_to_scalar(order, machine):
    machine.put_scalar(order.d, lowest_of(order.a, order, machine))


def scalar_to_predicate(order, machine):
    machine.put_predicate(order.d, cut(machine.read_scalar(order.a), order.k))


def flags_of_either(order, machine):
    either = lowest_of(order.a, order, machine) | lowest_of(order.b, order, machine)
    machine.put_flags(either == 0, either == ones(order.k))


def flags_of_both(order, machine):
    x = lowest_of(order.a, order, machine)
    y = lowest_of(order.b, order, machine)
    machine.put_flags((x & y) == 0, (~x & y) == 0)


def place_of_lowest(order, machine):
    x = lowest_of(order.a, order, machine)
    # x & -x is the lowest one alone; without any, the place asked for is k.
    machine.put_scalar(order.d, (x & -x).bit_length() - 1 if x else order.k)


def how_many(order, machine):
    machine.put_scalar(order.d, count_ones(lowest_of(order.a, order, machine)))


MASKS = {
    87: intersect,
    100: predicate_to_scalar,
    101: scalar_to_predicate,
    102: flags_of_either,
    103: flags_of_both,
    104: place_of_lowest,
    105: how_many,
}


def mask_step(operation):
    return pair_predicates if operation in PREDICATE_PAIRS else MASKS.get(operation)
