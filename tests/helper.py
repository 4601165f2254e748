"""What the tests share: instructions put together, vectors told by lanes, and a check of all that an answer tells."""

import unittest

from lanewise.lanes import do

ALL = 0xFFFFFFFFFFFFFFFF
WIDTHS = (8, 16, 32, 64)
REFUSED = [3]


def code(operation, k=8, q=0, d=1, a=2, b=3, g=0, z=0):
    second = WIDTHS.index(k) + 4 * q
    return operation | second << 8 | d << 16 | a << 20 | b << 24 | g << 28 | (z & 0xFFFFFFFF) << 32


def vector(k, lanes, rest=0):
    """Eight words that hold these lanes of k bits from the lowest on, and rest in the others."""
    count = 512 // k
    assert len(lanes) <= count
    whole = 0
    for place, lane in enumerate(list(lanes) + [rest] * (count - len(lanes))):
        assert 0 <= lane < 1 << k
        whole |= lane << place * k
    return [whole >> low & ALL for low in range(0, 512, 64)]


def cycled(k, lanes):
    """The lanes over and over until the vector is full."""
    count = 512 // k
    return vector(k, (list(lanes) * count)[:count])


def background():
    """A state in which no two vectors, predicates or scalars are alike, and none is 0."""
    state = {}
    for number in range(16):
        state["v", number] = [(8 * number + i + 1) * 0x0123456789ABCDEF & ALL for i in range(8)]
        state["s", number] = (number + 1) * 0x0FEDCBA987654321 & ALL
    for number in range(8):
        state["p", number] = (number + 1) * 0x1F2E3D4C5B6A7988 & ALL
    state["flags"] = 0
    return state


def handed(instruction, state):
    vectors = []
    for number in range(16):
        vectors.extend(state["v", number])
    predicates = [state["p", number] for number in range(8)]
    scalars = [state["s", number] for number in range(16)]
    return [instruction, vectors, predicates, scalars, state["flags"]]


def ask(instruction, changes=None):
    state = background()
    state.update(changes or {})
    return do(*handed(instruction, state))


def told(numbers):
    """The state that an answer tells; fails where the answer hasn't the form that the document asks."""
    assert numbers[0] == 0, numbers
    assert len(numbers) == 158, len(numbers)
    assert (numbers[1], numbers[130], numbers[139], numbers[156]) == (128, 8, 16, 1), numbers
    state = {"flags": numbers[157]}
    for number in range(16):
        state["v", number] = numbers[2 + 8 * number:10 + 8 * number]
        state["s", number] = numbers[140 + number]
    for number in range(8):
        state["p", number] = numbers[131 + number]
    return state


class Steps(unittest.TestCase):
    maxDiff = None

    def check(self, instruction, before, after):
        """Done on the background with before laid over it, the instruction changes what after tells and no more."""
        expected = background()
        expected.update(before)
        expected["p", 0] = ALL
        expected["flags"] &= 3
        expected.update(after)
        answer = told(ask(instruction, before))
        for key in expected:
            shown = [hex(instruction), key, answer[key], expected[key]]
            self.assertEqual(answer[key], expected[key], shown)

    def check_lanes(self, operation, k, before, lanes, z=0, put=None):
        """The lanes that come into vector 1 of vectors 2 and 3, with every lane chosen."""
        self.check(code(operation, k, z=z), before, {("v", 1): vector(put or k, lanes)})

    def check_refused(self, instruction):
        self.assertEqual(ask(instruction), REFUSED, hex(instruction))

    def check_widths(self, operation, widths):
        """The operation is done at these widths and refused at the others."""
        for k in WIDTHS:
            if k in widths:
                self.assertEqual(ask(code(operation, k))[0], 0, (operation, k))
            else:
                self.check_refused(code(operation, k))
