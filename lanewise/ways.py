"""Operations that choose the place to go on at; after is the place behind the instruction."""


def on(order, machine, after):
    return after + order.z


def on_if(truth, order, after):
    return after + order.z if truth else after


def on_if_zero(order, machine, after):
    return on_if(machine.has_zero(), order, after)


def on_if_not_zero(order, machine, after):
    return on_if(not machine.has_zero(), order, after)


def on_if_carry(order, machine, after):
    return on_if(machine.has_carry(), order, after)


def on_if_not_carry(order, machine, after):
    return on_if(not machine.has_carry(), order, after)


def count_down(order, machine, after):
    machine.put_scalar(order.d, machine.read_scalar(order.d) - 1)
    return on_if(machine.read_scalar(order.d) != 0, order, after)


def keep_and_go(order, machine, after):
    machine.put_scalar(order.d, after)
    return after + order.z


def on_at_scalar(order, machine, after):
    return machine.read_scalar(order.a)


WAYS = {
    120: on,
    121: on_if_zero,
    122: on_if_not_zero,
    123: on_if_carry,
    124: on_if_not_carry,
    125: count_down,
    126: keep_and_go,
    127: on_at_scalar,
}


def way(operation):
    return WAYS.get(operation)
