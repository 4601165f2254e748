"""Operations that lay lanes in other places or make them wider or narrower; each answers the lanes to put."""

from lanewise.bits import by_groups, cut, has_bit, held, held_signed, signed


def pick(order, machine):
    xs = machine.read_lanes(order.a, order.k)
    return [xs[y % order.n] for y in machine.read_lanes(order.b, order.k)]


def pick_of_two(order, machine):
    both = machine.read_lanes(order.a, order.k) + machine.read_lanes(order.d, order.k)
    return [both[y % len(both)] for y in machine.read_lanes(order.b, order.k)]


def pick_bytes(order, machine):
    def picked(xs, ys):
        return [0 if y >= 128 else xs[y % 16] for y in ys]

    return by_groups(machine.read_lanes(order.a, 8), machine.read_lanes(order.b, 8), picked)


def move_down(order, machine):
    both = machine.read_lanes(order.b, order.k) + machine.read_lanes(order.a, order.k)
    by = order.m % order.n
    return both[by:by + order.n]


def move_bytes_down(order, machine):
    by = order.m % 32

    def moved(xs, ys):
        return (ys + xs + [0] * 32)[by:by + 16]

    return by_groups(machine.read_lanes(order.a, 8), machine.read_lanes(order.b, 8), moved)


def by_turns(xs, ys):
    lanes = []
    for x, y in zip(xs, ys):
        lanes.extend([x, y])
    return lanes


def turns_lower(xs, ys):
    half = len(xs) // 2
    return by_turns(xs[:half], ys[:half])


def turns_upper(xs, ys):
    half = len(xs) // 2
    return by_turns(xs[half:], ys[half:])


def by_own_groups(action, order, machine):
    return by_groups(machine.read_lanes(order.a, order.k), machine.read_lanes(order.b, order.k), action)


def interleave_lower(order, machine):
    return by_own_groups(turns_lower, order, machine)


def interleave_upper(order, machine):
    return by_own_groups(turns_upper, order, machine)


def group_of(words, number):
    """A group as its two lanes of 64 bits."""
    first = number % 4 * 2
    return words[first:first + 2]


def shuffle_groups(order, machine):
    xs = machine.read_lanes(order.a, 64)
    ys = machine.read_lanes(order.b, 64)
    lower = group_of(xs, order.m) + group_of(xs, order.m >> 2)
    return lower + group_of(ys, order.m >> 4) + group_of(ys, order.m >> 6)


def insert_group(order, machine):
    words = machine.read_lanes(order.b, 64)
    first = order.m % 4 * 2
    return words[:first] + machine.read_lanes(order.a, 64)[:2] + words[first + 2:]


def extract_group(order, machine):
    return group_of(machine.read_lanes(order.a, 64), order.m) + [0] * 6


def turn_bytes_round(order, machine):
    def turned(lane):
        other = 0
        for low in range(0, order.k, 8):
            other = (other << 8) | ((lane >> low) & 255)
        return other

    return [turned(x) for x in machine.read_lanes(order.a, order.k)]


def expand(order, machine):
    chosen = machine.read_predicate(order.g)
    xs = machine.read_lanes(order.a, order.k)
    lanes = []
    used = 0
    for place in range(order.n):
        lanes.append(xs[used])
        if has_bit(chosen, place):
            used += 1
    return lanes


def neighbours(action, order, machine):
    """In each group, what action makes of each two neighbours of a, then of b."""
    def joined(xs, ys):
        both = xs + ys
        return [action(both[i], both[i + 1]) for i in range(0, len(both), 2)]

    return by_own_groups(joined, order, machine)


def add_neighbours(order, machine):
    return neighbours(lambda lower, upper: cut(lower + upper, order.k), order, machine)


def subtract_neighbours(order, machine):
    return neighbours(lambda lower, upper: cut(lower - upper, order.k), order, machine)


def add_neighbours_held(order, machine):
    k = order.k
    return neighbours(lambda lower, upper: held_signed(signed(lower, k) + signed(upper, k), k), order, machine)


def widen(order, machine):
    return machine.read_lanes(order.a, order.k)[:order.n // 2]


def widen_signed(order, machine):
    return [cut(signed(x, order.k), 2 * order.k) for x in widen(order, machine)]


def narrowed(action, order, machine):
    return [action(x) for x in machine.read_lanes(order.a, 2 * order.k)] + [0] * (order.n // 2)


def narrow(order, machine):
    return narrowed(lambda x: cut(x, order.k), order, machine)


def narrow_signed(order, machine):
    return narrowed(lambda x: held_signed(signed(x, 2 * order.k), order.k), order, machine)


def narrow_held(order, machine):
    return narrowed(lambda x: held(x, order.k), order, machine)


def narrow_signed_held(order, machine):
    return narrowed(lambda x: held(signed(x, 2 * order.k), order.k), order, machine)


SHAPES = {
    40: pick,
    41: pick_of_two,
    42: pick_bytes,
    43: move_down,
    44: move_bytes_down,
    45: interleave_lower,
    46: interleave_upper,
    47: shuffle_groups,
    49: expand,
    50: turn_bytes_round,
    51: insert_group,
    52: extract_group,
    53: widen,
    54: widen_signed,
    55: narrow,
    56: narrow_signed,
    57: narrow_held,
    58: narrow_signed_held,
    60: add_neighbours,
    61: subtract_neighbours,
    62: add_neighbours_held,
}


def shape_maker(operation):
    return SHAPES.get(operation)
