"""Promise 1: lanes made of d's lanes too, of predicates or of scalars (25, 26, 33 to 37, 86)."""

import unittest

from helper import ALL, WIDTHS, Steps, code, cycled, vector

# Each row: the operation, the width, then d's, a's and b's lane and the answer, in hexadecimal digits.
FUNNELS = """
25 8: 04 12 34 23, 00 12 34 12, 08 12 34 12, 07 12 34 1a, ff 12 34 1a, 01 80 80 01
25 16: 0008 1234 5678 3456, 0010 1234 5678 1234, ffff 0001 0002 8001
25 32: 10 11112222 33334444 22223333, 20 11112222 33334444 11112222, 24 11112222 33334444 11122223
25 64: 20 1111111122222222 3333333344444444 2222222233333333, 40 1 2 1, ffffffffffffffff 1 2 8000000000000001
26 8: 04 12 34 41, 00 12 34 12, 08 12 34 12, 07 12 34 68, ff 12 34 68, 01 01 01 80
26 16: 0008 1234 5678 7812, 0010 1234 5678 1234, ffff 8000 0002 0005
26 32: 10 11112222 33334444 44441111, 20 11112222 33334444 11112222, 24 11112222 33334444 41111222
26 64: 20 1111111122222222 3333333344444444 4444444411111111, 40 1 2 1, ffffffffffffffff 8000000000000000 2 5
"""


class Funnels(Steps):
    def test_each_row(self):
        for row in FUNNELS.strip().split("\n"):
            head, tail = row.split(":")
            operation, k = [int(word) for word in head.split()]
            fours = [[int(word, 16) for word in four.split()] for four in tail.split(",")]
            before = {("v", number): cycled(k, [four[number - 1] for four in fours]) for number in (1, 2, 3)}
            self.check(code(operation, k), before, {("v", 1): cycled(k, [four[3] for four in fours])})

    def test_lanes_of_d_that_are_not_chosen_stay(self):
        before = {("v", 1): cycled(8, [4]), ("v", 2): cycled(8, [0x12]), ("v", 3): cycled(8, [0x34]), ("p", 2): 2}
        self.check(code(25, g=2), before, {("v", 1): vector(8, [4, 0x23], 4)})
        self.check(code(26, q=1, g=2), before, {("v", 1): vector(8, [0, 0x41])})


class BitByBit(Steps):
    # With these three, bit i of each byte asks for bit i of m's lowest byte.
    EVERY = {("v", 1): cycled(8, [0xF0]), ("v", 2): cycled(8, [0xCC]), ("v", 3): cycled(8, [0xAA])}

    def test_each_bit_is_looked_up(self):
        for k in WIDTHS:
            for z, byte in ((0, 0), (0xFF, 0xFF), (0xE4, 0xE4), (0x1E4, 0xE4), (0x7FFFFF01, 1), (-1, 0), (-28, 0)):
                self.check(code(33, k, z=z), self.EVERY, {("v", 1): cycled(8, [byte])})
            for place in range(8):
                self.check(code(33, k, z=1 << place), self.EVERY, {("v", 1): cycled(8, [1 << place])})

    def test_put_by_lanes_of_its_width(self):
        before = dict(self.EVERY)
        before["p", 1] = 0b10
        self.check(code(33, 16, q=1, g=1, z=0x96), before, {("v", 1): vector(16, [0, 0x9696])})
        self.check(code(33, 64, q=1, g=1, z=0x96), before, {("v", 1): vector(64, [0, 0x9696969696969696])})


class Blends(Steps):
    def test_b_where_the_predicate_has_a_bit(self):
        for k in WIDTHS:
            before = {("v", 2): cycled(k, [1]), ("v", 3): cycled(k, [2]), ("p", 5): 0b01101, ("p", 1): 0b10}
            for z in (5, 13, 0x7FFFFFFD):
                self.check(code(34, k, z=z), before, {("v", 1): vector(k, [2, 1, 2, 2], 1)})
            self.check(code(34, k, z=1), before, {("v", 1): vector(k, [1, 2], 1)})
            for z in (0, 8, -3):
                self.check(code(34, k, z=z), before, {("v", 1): cycled(k, [2])})

    def test_put_by_predicate_g_besides(self):
        before = {("v", 1): [9] * 8, ("v", 2): [1] * 8, ("v", 3): [2] * 8, ("p", 5): 0b1100, ("p", 6): 0b1010}
        self.check(code(34, 64, g=6, z=5), before, {("v", 1): [9, 1, 9, 2, 9, 9, 9, 9]})
        self.check(code(34, 64, q=1, g=6, z=5), before, {("v", 1): [0, 1, 0, 2, 0, 0, 0, 0]})


class Repeats(Steps):
    def test_scalar_in_every_lane_cut(self):
        before = {("s", 11): 0x1122334455667788}
        for k, lane in ((8, 0x88), (16, 0x7788), (32, 0x55667788), (64, 0x1122334455667788)):
            self.check(code(35, k, b=11), before, {("v", 1): cycled(k, [lane])})

    def test_predicate_as_a_number(self):
        before = {("p", 3): 0xFEDCBA9876543210, ("p", 0): 0}
        self.check(code(36, 32, b=3), before, {("v", 1): cycled(32, [0x3210])})
        self.check(code(36, 64, b=3), before, {("v", 1): cycled(64, [0x10])})
        self.check(code(36, 32, b=11), before, {("v", 1): cycled(32, [0x3210])})
        self.check(code(36, 32, b=0), before, {("v", 1): cycled(32, [0xFFFF])})
        self.check(code(36, 64, b=0), before, {("v", 1): cycled(64, [0xFF])})
        self.check_widths(36, (32, 64))

    def test_counting_up_and_down(self):
        self.check(code(37, 8, b=9, z=3), {("s", 9): 0x1FE}, {("v", 1): vector(8, [(254 + 3 * i) % 256 for i in range(64)])})
        self.check(code(37, 16, b=9, z=-1), {("s", 9): 2},
                   {("v", 1): vector(16, [2, 1, 0] + [0x10000 - i for i in range(1, 30)])})
        self.check(code(37, 32, b=9, z=-0x80000000), {("s", 9): 1}, {("v", 1): cycled(32, [1, 0x80000001])})
        self.check(code(37, 64, b=9, z=0x7FFFFFFF), {("s", 9): ALL},
                   {("v", 1): [ALL, 0x7FFFFFFE, 0xFFFFFFFD, 0x17FFFFFFC, 0x1FFFFFFFB, 0x27FFFFFFA, 0x2FFFFFFF9, 0x37FFFFFF8]})
        self.check(code(37, 64, b=9, z=-5), {("s", 9): 7},
                   {("v", 1): [7, 2, ALL - 2, ALL - 7, ALL - 12, ALL - 17, ALL - 22, ALL - 27]})

    def test_all_ones_where_the_predicate_has_a_bit(self):
        for b in (4, 12):
            for k in WIDTHS:
                every = (1 << k) - 1
                self.check(code(86, k, b=b), {("p", 4): 0b1101}, {("v", 1): vector(k, [every, 0, every, every])})
        self.check(code(86, 8, b=4), {("p", 4): 1 << 63}, {("v", 1): vector(8, [0] * 63 + [255])})
        for b in (0, 8):
            self.check(code(86, 32, b=b), {("p", 0): 0}, {("v", 1): [ALL] * 8})

    def test_put_by_predicate_g(self):
        before = {("v", 1): [9] * 8, ("s", 3): 7, ("p", 3): 0b11, ("p", 6): 0b0110}
        self.check(code(35, 64, g=6), before, {("v", 1): [9, 7, 7, 9, 9, 9, 9, 9]})
        self.check(code(36, 64, g=6), before, {("v", 1): [9, 3, 3, 9, 9, 9, 9, 9]})
        self.check(code(37, 64, g=6, z=1), before, {("v", 1): [9, 8, 9, 9, 9, 9, 9, 9]})
        self.check(code(86, 64, g=6), before, {("v", 1): [9, ALL, 0, 9, 9, 9, 9, 9]})
        self.check(code(86, 64, q=1, g=6), before, {("v", 1): [0, ALL, 0, 0, 0, 0, 0, 0]})


if __name__ == "__main__":
    unittest.main()
