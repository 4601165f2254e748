"""Products and bits, in lanes that each operation tells itself; each answers the lanes to put."""

from lanewise.bits import by_groups, count_ones, cut, gather_bits, has_bit, held_signed, signed

FIELD = 0b100011011


def summed_by(numbers, each):
    return [sum(numbers[first:first + each]) for first in range(0, len(numbers), each)]


def distances(xs, ys):
    return [abs(x - y) for x, y in zip(xs, ys)]


def sum_distances(order, machine):
    return summed_by(distances(machine.read_lanes(order.a, 8), machine.read_lanes(order.b, 8)), 8)


def slide_distances(order, machine):
    from_x = order.m // 4 % 2 * 4
    from_y = order.m % 4 * 4

    def slid(xs, ys):
        fixed = ys[from_y:from_y + 4]
        return [sum(distances(xs[from_x + i:from_x + i + 4], fixed)) for i in range(8)]

    return by_groups(machine.read_lanes(order.a, 8), machine.read_lanes(order.b, 8), slid)


def least_and_place(order, machine):
    def found(xs, ys):
        least = min(xs)
        return [least | (xs.index(least) << 16), 0]

    return by_groups(machine.read_lanes(order.a, 16), machine.read_lanes(order.b, 16), found)


def byte_products(order, machine):
    xs = machine.read_lanes(order.a, 8)
    ys = machine.read_lanes(order.b, 8)
    return [x * signed(y, 8) for x, y in zip(xs, ys)]


def signed_products(order, machine):
    xs = machine.read_lanes(order.a, 16)
    ys = machine.read_lanes(order.b, 16)
    return [signed(x, 16) * signed(y, 16) for x, y in zip(xs, ys)]


def add_to_d(sums, order, machine):
    ds = machine.read_lanes(order.d, 32)
    return [signed(d, 32) + number for d, number in zip(ds, sums)]


def add_byte_products(order, machine):
    return [cut(x, 32) for x in add_to_d(summed_by(byte_products(order, machine), 4), order, machine)]


def add_byte_products_held(order, machine):
    return [held_signed(x, 32) for x in add_to_d(summed_by(byte_products(order, machine), 4), order, machine)]


def add_products(order, machine):
    return [cut(x, 32) for x in add_to_d(summed_by(signed_products(order, machine), 2), order, machine)]


def add_products_held(order, machine):
    return [held_signed(x, 32) for x in add_to_d(summed_by(signed_products(order, machine), 2), order, machine)]


def sum_products(order, machine):
    return [cut(x, 32) for x in summed_by(signed_products(order, machine), 2)]


def sum_byte_products_held(order, machine):
    return [held_signed(x, 16) for x in summed_by(byte_products(order, machine), 2)]


def bytes_with_words(action, order, machine):
    """What action makes of each byte of a and the lane of 64 bits of b that lies over it."""
    ys = machine.read_lanes(order.b, 64)
    return [action(x, ys[place // 8]) for place, x in enumerate(machine.read_lanes(order.a, 8))]


def cut_out(order, machine):
    def eight_from(x, word):
        return cut(((word << 64) | word) >> (x % 64), 8)

    return bytes_with_words(eight_from, order, machine)


def field_product(x, y):
    product = 0
    for place in range(8):
        if has_bit(y, place):
            product ^= x
        x <<= 1
        if x > 255:
            x ^= FIELD
    return product


def field_inverse(x):
    # The field's 255 numbers but 0 come back to 1 in 255 steps, so the power 254 is the inverse.
    inverse = 1
    power = x
    for place in range(1, 8):
        power = field_product(power, power)
        inverse = field_product(inverse, power)
    return inverse


def field_products(order, machine):
    xs = machine.read_lanes(order.a, 8)
    ys = machine.read_lanes(order.b, 8)
    return [field_product(x, y) for x, y in zip(xs, ys)]


def by_rows(x, word):
    """Bit i: whether x has an odd number of ones together with row i of word, its highest byte being row 0."""
    return gather_bits([count_ones((word >> (56 - 8 * i)) & x) % 2 for i in range(8)])


def transform(order, machine):
    return bytes_with_words(lambda x, word: by_rows(x, word) ^ cut(order.m, 8), order, machine)


def transform_inverse(order, machine):
    return bytes_with_words(lambda x, word: by_rows(field_inverse(x), word) ^ cut(order.m, 8), order, machine)


def carryless_product(x, y):
    product = 0
    for place in range(64):
        if has_bit(y, place):
            product ^= x << place
    return product


def carryless_products(order, machine):
    from_x = order.m % 2
    from_y = order.m // 16 % 2

    def multiplied(xs, ys):
        product = carryless_product(xs[from_x], ys[from_y])
        return [cut(product, 64), product >> 64]

    return by_groups(machine.read_lanes(order.a, 64), machine.read_lanes(order.b, 64), multiplied)


def same_before(order, machine):
    xs = machine.read_lanes(order.a, order.k)
    return [gather_bits([before == x for before in xs[:place]]) for place, x in enumerate(xs)]


def products_of_52(order, machine):
    xs = machine.read_lanes(order.a, 64)
    ys = machine.read_lanes(order.b, 64)
    return [cut(x, 52) * cut(y, 52) for x, y in zip(xs, ys)]


def add_lower_52(order, machine):
    ds = machine.read_lanes(order.d, 64)
    return [cut(d + cut(product, 52), 64) for d, product in zip(ds, products_of_52(order, machine))]


def add_upper_52(order, machine):
    ds = machine.read_lanes(order.d, 64)
    return [cut(d + (product >> 52), 64) for d, product in zip(ds, products_of_52(order, machine))]


PRODUCTS = {
    63: sum_distances,
    64: slide_distances,
    65: least_and_place,
    66: add_byte_products,
    67: add_byte_products_held,
    68: add_products,
    69: add_products_held,
    70: sum_products,
    71: sum_byte_products_held,
    72: cut_out,
    74: field_products,
    75: transform,
    76: transform_inverse,
    77: carryless_products,
    78: same_before,
    79: add_lower_52,
    80: add_upper_52,
}


def product_maker(operation):
    return PRODUCTS.get(operation)
