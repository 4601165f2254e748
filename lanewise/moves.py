"""Operations on single lanes, and the one that gathers lanes: they don't put a vector by predicate g."""

from lanewise.bits import cut, has_bit


def compress(order, machine):
    chosen = machine.read_predicate(order.g)
    xs = machine.read_lanes(order.a, order.k)
    taken = [xs[i] for i in range(order.n) if has_bit(chosen, i)]
    machine.write_lanes(order.d, taken + machine.kept_lanes(order, order.k)[len(taken):])


def lane_to_scalar(order, machine):
    machine.put_scalar(order.d, machine.read_lanes(order.a, order.k)[order.m % order.n])


def scalar_to_lane(order, machine):
    lanes = machine.read_lanes(order.d, order.k)
    lanes[order.m % order.n] = cut(machine.read_scalar(order.a), order.k)
    machine.write_lanes(order.d, lanes)


MOVES = {
    48: compress,
    106: lane_to_scalar,
    107: scalar_to_lane,
}


def move_step(operation):
    return MOVES.get(operation)
