"""Texts of up to 16 bytes, and what they tell of one another."""

from lanewise.bits import gather_bits


def among(xs, ys):
    return [y in xs for y in ys]


def lies_between_two(y, xs):
    # A last byte without its other end is no pair.
    for i in range(0, len(xs) - 1, 2):
        if xs[i] <= y <= xs[i + 1]:
            return True
    return False


def between(xs, ys):
    return [lies_between_two(y, xs) for y in ys]


def alike(xs, ys):
    # Slices, so that a text that has ended gives nothing: nothing is like nothing, and like no byte.
    return [xs[i:i + 1] == ys[i:i + 1] for i in range(16)]


def standing(xs, ys):
    # What of xs would lie beyond the 16 bytes is not asked for; beyond the end of ys it is missed.
    # All 16 places are walked, since of an empty xs nothing is missed where ys has ended either.
    return [xs[:16 - i] == ys[i:i + len(xs)] for i in range(16)]


QUESTIONS = (among, between, alike, standing)


def answer(order, machine, xs, ys):
    question = QUESTIONS[order.m % 4]
    word = gather_bits(question(xs, ys))
    machine.put_predicate(order.d, word)
    machine.put_flags(len(ys) < 16, word != 0)


def lowest_bytes(number, machine):
    return machine.read_lanes(number, 8)[:16]


def up_to_zero(row):
    return row[:row.index(0)] if 0 in row else row


def texts_by_zero(order, machine):
    xs = up_to_zero(lowest_bytes(order.a, machine))
    ys = up_to_zero(lowest_bytes(order.b, machine))
    answer(order, machine, xs, ys)


def texts_by_length(order, machine):
    xs = lowest_bytes(order.a, machine)[:min(machine.read_scalar(0), 16)]
    ys = lowest_bytes(order.b, machine)[:min(machine.read_scalar(1), 16)]
    answer(order, machine, xs, ys)


TEXTS = {
    88: texts_by_zero,
    89: texts_by_length,
}


def text_step(operation):
    return TEXTS.get(operation)
