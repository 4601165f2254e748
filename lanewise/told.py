"""Operations that tell a bit a lane; each answers a list of truths, the lowest lane's first."""

from lanewise.bits import has_bit, signed
from lanewise.products import bytes_with_words


def stand(how, x, y):
    if how == 0:
        return x == y
    if how == 1:
        return x < y
    return how == 2 and x <= y


def stand_as_asked(order, xs, ys):
    turned = has_bit(order.m, 2)
    return [stand(order.m % 4, x, y) != turned for x, y in zip(xs, ys)]


def compare(order, machine):
    xs = machine.read_lanes(order.a, order.k)
    ys = machine.read_lanes(order.b, order.k)
    return stand_as_asked(order, xs, ys)


def compare_signed(order, machine):
    xs = [signed(x, order.k) for x in machine.read_lanes(order.a, order.k)]
    ys = [signed(y, order.k) for y in machine.read_lanes(order.b, order.k)]
    return stand_as_asked(order, xs, ys)


def share_a_one(order, machine):
    xs = machine.read_lanes(order.a, order.k)
    ys = machine.read_lanes(order.b, order.k)
    return [(x & y) != 0 for x, y in zip(xs, ys)]


def share_no_one(order, machine):
    return [not shared for shared in share_a_one(order, machine)]


def highest_bits(order, machine):
    return [has_bit(x, order.k - 1) for x in machine.read_lanes(order.a, order.k)]


def bits_at_places(order, machine):
    return bytes_with_words(lambda x, word: has_bit(word, x % 64), order, machine)


TOLD = {
    73: bits_at_places,
    81: compare,
    82: compare_signed,
    83: share_a_one,
    84: share_no_one,
    85: highest_bits,
}


def truths_maker(operation):
    return TOLD.get(operation)
