"""Scalars' own arithmetic, of 64 bits."""


def add_z(x, y, z):
    return x + z


def add(x, y, z):
    return x + y


def subtract(x, y, z):
    return x - y


def multiply(x, y, z):
    return x * y


def bits_and(x, y, z):
    return x & y


def bits_or(x, y, z):
    return x | y


def bits_exclusive(x, y, z):
    return x ^ y


def shift_left(x, y, z):
    return x << (y % 64)


def shift_right(x, y, z):
    return x >> (y % 64)


def just_z(x, y, z):
    return z


SCALAR_PAIRS = {
    130: add_z,
    131: add,
    132: subtract,
    133: multiply,
    134: bits_and,
    135: bits_or,
    136: bits_exclusive,
    137: shift_left,
    138: shift_right,
    139: just_z,
}


def pair_scalars(order, machine):
    action = SCALAR_PAIRS.get(order.operation)
    x = machine.read_scalar(order.a)
    y = machine.read_scalar(order.b)
    machine.put_scalar(order.d, action(x, y, order.z))


def compare_scalars(order, machine):
    x = machine.read_scalar(order.a)
    y = machine.read_scalar(order.b)
    machine.put_flags(x == y, x < y)


def scalar_step(operation):
    if operation == 140:
        return compare_scalars
    return pair_scalars if operation in SCALAR_PAIRS else None
