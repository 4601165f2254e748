"""Operations that make a lane of a's lane x and b's lane y alone; each answers k bits."""

from lanewise.bits import count_ones, cut, held, held_signed, signed


def add(x, y, k):
    return cut(x + y, k)


def subtract(x, y, k):
    return cut(x - y, k)


def multiply(x, y, k):
    return cut(x * y, k)


def upper_product(x, y, k):
    return (x * y) >> k


def upper_product_signed(x, y, k):
    return cut((signed(x, k) * signed(y, k)) >> k, k)


def average(x, y, k):
    return (x + y + 1) // 2


def apart(x, y, k):
    return abs(x - y)


def lesser(x, y, k):
    return min(x, y)


def greater(x, y, k):
    return max(x, y)


def lesser_signed(x, y, k):
    return cut(min(signed(x, k), signed(y, k)), k)


def greater_signed(x, y, k):
    return cut(max(signed(x, k), signed(y, k)), k)


def add_held_signed(x, y, k):
    return held_signed(signed(x, k) + signed(y, k), k)


def add_held(x, y, k):
    return held(x + y, k)


def subtract_held_signed(x, y, k):
    return held_signed(signed(x, k) - signed(y, k), k)


def subtract_held(x, y, k):
    return held(x - y, k)


def bits_and(x, y, k):
    return x & y


def bits_or(x, y, k):
    return x | y


def bits_exclusive(x, y, k):
    return x ^ y


def bits_not_and(x, y, k):
    return cut(~x, k) & y


def shift_left(x, y, k):
    # y may be as large as a word: shifting by it first and cutting then would make a huge number.
    return 0 if y >= k else cut(x << y, k)


def shift_right(x, y, k):
    return 0 if y >= k else x >> y


def shift_right_signed(x, y, k):
    return cut(signed(x, k) >> min(y, k - 1), k)


def turn_left(x, y, k):
    by = y % k
    return cut((x << by) | (x >> (k - by)), k)


def turn_right(x, y, k):
    by = y % k
    return cut((x >> by) | (x << (k - by)), k)


def distance_from_zero(x, y, k):
    return abs(signed(x, k))


def negate(x, y, k):
    return cut(-x, k)


def negate_by_sign(x, y, k):
    if y == 0:
        return 0
    return x if signed(y, k) > 0 else cut(-x, k)


def how_many_ones(x, y, k):
    return count_ones(x)


def zeros_above(x, y, k):
    return k - x.bit_length()


def rounded_product(x, y, k):
    doubled = (signed(x, k) * signed(y, k)) >> (k - 2)
    return cut((doubled + 1) >> 1, k)


PAIRS = {
    1: add,
    2: subtract,
    3: multiply,
    4: upper_product,
    5: upper_product_signed,
    6: average,
    7: apart,
    8: lesser,
    9: greater,
    10: lesser_signed,
    11: greater_signed,
    12: add_held_signed,
    13: add_held,
    14: subtract_held_signed,
    15: subtract_held,
    16: bits_and,
    17: bits_or,
    18: bits_exclusive,
    19: bits_not_and,
    20: shift_left,
    21: shift_right,
    22: shift_right_signed,
    23: turn_left,
    24: turn_right,
    27: distance_from_zero,
    28: negate,
    29: negate_by_sign,
    30: how_many_ones,
    31: zeros_above,
    32: rounded_product,
}


def pair_action(operation):
    return PAIRS.get(operation)


def paired_lanes(action, order, machine):
    xs = machine.read_lanes(order.a, order.k)
    ys = machine.read_lanes(order.b, order.k)
    return [action(x, y, order.k) for x, y in zip(xs, ys)]
