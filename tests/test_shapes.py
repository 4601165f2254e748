"""Promise 1: shapes (40 to 58, 60 to 62), and single lanes (106, 107)."""

import unittest

from helper import ALL, WIDTHS, Steps, code, cycled, vector

A = [0xA0, 0xA1, 0xA2, 0xA3, 0xA4, 0xA5, 0xA6, 0xA7]
B = [0xB0, 0xB1, 0xB2, 0xB3, 0xB4, 0xB5, 0xB6, 0xB7]
D = [0xD0, 0xD1, 0xD2, 0xD3, 0xD4, 0xD5, 0xD6, 0xD7]
THREE = {("v", 1): D, ("v", 2): A, ("v", 3): B}
A16 = [0xA0 + i for i in range(16)]
B16 = [0xB0 + i for i in range(16)]
ROWS = {("v", 2): vector(8, A16 + [0x10 + i for i in range(48)]), ("v", 3): vector(8, B16 + [0x50 + i for i in range(48)])}


def groups(k, first, step):
    """Lanes in which each group begins step further than the one before it and counts up."""
    each = 128 // k
    return [first + step * (i // each) + i % each for i in range(512 // k)]


class Picking(Steps):
    def test_lane_b_of_a(self):
        before = {("v", 2): A, ("v", 3): [7, 0, 8, 15, ALL, 3, 3, 1 << 32]}
        self.check_lanes(40, 64, before, [0xA7, 0xA0, 0xA0, 0xA7, 0xA7, 0xA3, 0xA3, 0xA0])
        before = {("v", 2): vector(8, range(100, 164)), ("v", 3): vector(8, [63, 64, 255, 1, 128])}
        self.check_lanes(40, 8, before, [163, 100, 163, 101] + [100] * 60)
        before = {("v", 2): vector(16, range(100, 132)), ("v", 3): vector(16, [31, 32, 0xFFFF, 1])}
        self.check_lanes(40, 16, before, [131, 100, 131, 101] + [100] * 28)
        before = {("v", 2): vector(32, range(100, 116)), ("v", 3): vector(32, [15, 16, 0xFFFFFFFF, 1])}
        self.check_lanes(40, 32, before, [115, 100, 115, 101] + [100] * 12)

    def test_lane_b_of_a_or_of_d_from_n_on(self):
        before = dict(THREE)
        before["v", 3] = [7, 8, 15, 16, 0, 9, ALL, 24]
        self.check_lanes(41, 64, before, [0xA7, 0xD0, 0xD7, 0xA0, 0xA0, 0xD1, 0xD7, 0xD0])
        for k, n in ((8, 64), (16, 32), (32, 16)):
            before = {("v", 1): cycled(k, range(100, 100 + n)), ("v", 2): cycled(k, range(10, 10 + n)),
                      ("v", 3): vector(k, [n - 1, n, 2 * n - 1, 2 * n % (1 << k), 1, n + 2])}
            self.check_lanes(41, k, before, [9 + n, 100, 99 + n, 10, 11, 102] + [10] * (n - 6))

    def test_lanes_of_d_that_are_not_chosen_stay(self):
        before = dict(THREE)
        before.update({("v", 3): [15, 14, 13, 12, 11, 10, 9, 8], ("p", 3): 0b00001111})
        self.check(code(41, 64, g=3), before, {("v", 1): [0xD7, 0xD6, 0xD5, 0xD4, 0xD4, 0xD5, 0xD6, 0xD7]})

    def test_bytes_within_groups_whatever_w(self):
        b = [0, 15, 16, 31, 127, 128, 255, 7] + [1] * 8
        before = {("v", 2): vector(8, groups(8, 0x10, 0x20)), ("v", 3): cycled(8, b)}
        lanes = []
        for first in (0x10, 0x30, 0x50, 0x70):
            lanes.extend([first, first + 15, first, first + 15, first + 15, 0, 0, first + 7] + [first + 1] * 8)
        for k in WIDTHS:
            self.check_lanes(42, k, before, lanes, put=8)

    def test_bytes_are_put_by_bytes(self):
        before = {("v", 1): cycled(8, [9]), ("v", 2): vector(8, A16), ("v", 3): vector(8, [3, 4, 5, 6]), ("p", 1): 0b1010}
        for k in WIDTHS:
            self.check(code(42, k, g=1), before, {("v", 1): vector(8, [9, 0xA4, 9, 0xA6], 9)})
            self.check(code(42, k, q=1, g=1), before, {("v", 1): vector(8, [0, 0xA4, 0, 0xA6])})


class MovingDown(Steps):
    def test_lanes_of_a_above_those_of_b(self):
        self.check_lanes(43, 64, THREE, B, z=0)
        self.check_lanes(43, 64, THREE, B[1:] + A[:1], z=1)
        self.check_lanes(43, 64, THREE, B[7:] + A[:7], z=7)
        self.check_lanes(43, 64, THREE, B, z=8)
        self.check_lanes(43, 64, THREE, B[7:] + A[:7], z=0x7FFFFFFF)
        self.check_lanes(43, 64, THREE, B, z=-1)
        for k, n in ((8, 64), (16, 32), (32, 16)):
            a, b = list(range(n)), list(range(100, 100 + n))
            before = {("v", 2): vector(k, a), ("v", 3): vector(k, b)}
            self.check_lanes(43, k, before, b[3:] + a[:3], z=3 + n)
            self.check_lanes(43, k, before, b[n - 1:] + a[:n - 1], z=n - 1)

    def test_bytes_in_each_group_with_zeros_behind(self):
        a, b = groups(8, 0x10, 0x10), groups(8, 0x80, 0x10)
        before = {("v", 2): vector(8, a), ("v", 3): vector(8, b)}
        for k in WIDTHS:
            for z in (0, 32, -5):
                self.check_lanes(44, k, before, b, z=z, put=8)
            for z in (16, 48):
                self.check_lanes(44, k, before, a, z=z, put=8)
            for z, in_b, in_a in ((5, 11, 5), (37, 11, 5), (15, 1, 15), (20, 0, 12), (31, 0, 1), (0x7FFFFFFF, 0, 1)):
                lanes = []
                for first in range(0, 64, 16):
                    low = max(z % 32 - 16, 0)
                    lanes += b[first + 16 - in_b:first + 16] + a[first + low:first + low + in_a]
                    lanes += [0] * (16 - in_b - in_a)
                self.check_lanes(44, k, before, lanes, z=z, put=8)

    def test_group_bytes_are_put_by_bytes(self):
        before = {("v", 1): cycled(8, [9]), ("p", 1): 0b101}
        before.update(ROWS)
        for k in WIDTHS:
            self.check(code(44, k, g=1, z=14), before, {("v", 1): vector(8, [0xBE, 9, 0xA0], 9)})


class ByTurns(Steps):
    def test_lower_halves(self):
        self.check_lanes(45, 64, THREE, [0xA0, 0xB0, 0xA2, 0xB2, 0xA4, 0xB4, 0xA6, 0xB6])
        before = {("v", 2): vector(32, range(16)), ("v", 3): vector(32, range(100, 116))}
        self.check_lanes(45, 32, before, [0, 100, 1, 101, 4, 104, 5, 105, 8, 108, 9, 109, 12, 112, 13, 113])
        before = {("v", 2): vector(16, range(32)), ("v", 3): vector(16, range(100, 132))}
        lanes = []
        for i in (0, 1, 2, 3, 8, 9, 10, 11, 16, 17, 18, 19, 24, 25, 26, 27):
            lanes += [i, 100 + i]
        self.check_lanes(45, 16, before, lanes)
        before = {("v", 2): vector(8, range(64)), ("v", 3): vector(8, range(100, 164))}
        lanes = []
        for i in list(range(0, 8)) + list(range(16, 24)) + list(range(32, 40)) + list(range(48, 56)):
            lanes += [i, 100 + i]
        self.check_lanes(45, 8, before, lanes)

    def test_upper_halves(self):
        self.check_lanes(46, 64, THREE, [0xA1, 0xB1, 0xA3, 0xB3, 0xA5, 0xB5, 0xA7, 0xB7])
        before = {("v", 2): vector(32, range(16)), ("v", 3): vector(32, range(100, 116))}
        self.check_lanes(46, 32, before, [2, 102, 3, 103, 6, 106, 7, 107, 10, 110, 11, 111, 14, 114, 15, 115])
        before = {("v", 2): vector(16, range(32)), ("v", 3): vector(16, range(100, 132))}
        lanes = []
        for i in (4, 5, 6, 7, 12, 13, 14, 15, 20, 21, 22, 23, 28, 29, 30, 31):
            lanes += [i, 100 + i]
        self.check_lanes(46, 16, before, lanes)
        before = {("v", 2): vector(8, range(64)), ("v", 3): vector(8, range(100, 164))}
        lanes = []
        for i in list(range(8, 16)) + list(range(24, 32)) + list(range(40, 48)) + list(range(56, 64)):
            lanes += [i, 100 + i]
        self.check_lanes(46, 8, before, lanes)


class Groups(Steps):
    def test_two_of_a_and_two_of_b(self):
        for k in WIDTHS:
            self.check_lanes(47, k, THREE, [0xA0, 0xA1, 0xA2, 0xA3, 0xB4, 0xB5, 0xB6, 0xB7], z=0b11100100, put=64)
            self.check_lanes(47, k, THREE, [0xA6, 0xA7, 0xA4, 0xA5, 0xB2, 0xB3, 0xB0, 0xB1], z=0b100011011, put=64)
            self.check_lanes(47, k, THREE, [0xA0, 0xA1, 0xA0, 0xA1, 0xB0, 0xB1, 0xB0, 0xB1], z=-1, put=64)
            for pair in range(4):
                for group in range(4):
                    lanes = A[:2] * 2 + B[:2] * 2
                    row = A if pair < 2 else B
                    lanes[2 * pair:2 * pair + 2] = row[2 * group:2 * group + 2]
                    self.check_lanes(47, k, THREE, lanes, z=group << 2 * pair, put=64)

    def test_a_group_set_into_b(self):
        for k in WIDTHS:
            for z in (0, 4, -1):
                self.check_lanes(51, k, THREE, A[:2] + B[2:], z=z, put=64)
            for z in (1, 5):
                self.check_lanes(51, k, THREE, B[:2] + A[:2] + B[4:], z=z, put=64)
            self.check_lanes(51, k, THREE, B[:4] + A[:2] + B[6:], z=2, put=64)
            self.check_lanes(51, k, THREE, B[:6] + A[:2], z=0x7FFFFFFF, put=64)

    def test_a_group_by_itself(self):
        for k in WIDTHS:
            for z in (0, 4, -1):
                self.check_lanes(52, k, THREE, A[:2] + [0] * 6, z=z, put=64)
            self.check_lanes(52, k, THREE, A[2:4] + [0] * 6, z=1, put=64)
            self.check_lanes(52, k, THREE, A[4:6] + [0] * 6, z=6, put=64)
            self.check_lanes(52, k, THREE, A[6:] + [0] * 6, z=3, put=64)

    def test_groups_are_put_by_lanes_of_64(self):
        before = dict(THREE)
        before["p", 4] = 0b10010110
        for k in WIDTHS:
            self.check(code(47, k, g=4, z=0xE4), before, {("v", 1): [0xD0, 0xA1, 0xA2, 0xD3, 0xB4, 0xD5, 0xD6, 0xB7]})
            self.check(code(51, k, g=4, z=1), before, {("v", 1): [0xD0, 0xB1, 0xA0, 0xD3, 0xB4, 0xD5, 0xD6, 0xB7]})
            self.check(code(52, k, g=4, z=1), before, {("v", 1): [0xD0, 0xA3, 0, 0xD3, 0, 0xD5, 0xD6, 0]})
            self.check(code(52, k, q=1, g=4, z=1), before, {("v", 1): [0, 0xA3, 0, 0, 0, 0, 0, 0]})

    def test_bytes_turned_round(self):
        before = {("v", 2): cycled(64, [0x0102030405060708])}
        for k, word in ((8, 0x0102030405060708), (16, 0x0201040306050807), (32, 0x0403020108070605),
                        (64, 0x0807060504030201)):
            self.check(code(50, k), before, {("v", 1): [word] * 8})


class Gathering(Steps):
    def test_chosen_lanes_to_the_lowest(self):
        for k in WIDTHS:
            n = 512 // k
            before = {("v", 1): vector(k, range(n)), ("v", 2): vector(k, range(100, 100 + n)), ("p", 5): 0b10011010}
            taken = [101, 103, 104, 107]
            self.check(code(48, k, g=5), before, {("v", 1): vector(k, taken + list(range(4, n)))})
            self.check(code(48, k, q=1, g=5), before, {("v", 1): vector(k, taken)})
            before["p", 5] = ALL ^ (1 << n) - 1
            self.check(code(48, k, g=5), before, {})
            self.check(code(48, k, q=1, g=5), before, {("v", 1): [0] * 8})
            self.check(code(48, k, g=0), before, {("v", 1): vector(k, range(100, 100 + n))})

    def test_the_last_lane_alone(self):
        for k in WIDTHS:
            n = 512 // k
            before = {("v", 1): vector(k, range(n)), ("v", 2): vector(k, range(100, 100 + n)), ("p", 5): 1 << n - 1}
            self.check(code(48, k, g=5), before, {("v", 1): vector(k, [99 + n] + list(range(1, n)))})
            self.check(code(49, k, g=5), before, {("v", 1): vector(k, list(range(n - 1)) + [100])})

    def test_lowest_lanes_to_the_chosen(self):
        for k in WIDTHS:
            n = 512 // k
            before = {("v", 1): vector(k, range(n)), ("v", 2): vector(k, range(100, 100 + n)), ("p", 5): 0b10011010}
            lanes = [0, 100, 2, 101, 102, 5, 6, 103]
            self.check(code(49, k, g=5), before, {("v", 1): vector(k, lanes + list(range(8, n)))})
            self.check(code(49, k, q=1, g=5), before, {("v", 1): vector(k, [0, 100, 0, 101, 102, 0, 0, 103])})
            self.check(code(49, k, g=0), before, {("v", 1): vector(k, range(100, 100 + n))})


class Widening(Steps):
    ROWS = ((8, 16, [0x7F, 0x80, 0xFF, 1], [0x7F, 0xFF80, 0xFFFF, 1]),
            (16, 32, [0x7FFF, 0x8000, 0xFFFF, 1], [0x7FFF, 0xFFFF8000, 0xFFFFFFFF, 1]),
            (32, 64, [0x7FFFFFFF, 0x80000000, 0xFFFFFFFF, 1],
             [0x7FFFFFFF, 0xFFFFFFFF80000000, 0xFFFFFFFFFFFFFFFF, 1]))

    def test_the_lower_half_in_lanes_twice_as_wide(self):
        for k, put, lanes, signed in self.ROWS:
            half = 256 // k
            full = (lanes * half)[:half] + [5] * half
            self.check_lanes(53, k, {("v", 2): vector(k, full)}, (lanes * half)[:half], put=put)
            self.check_lanes(54, k, {("v", 2): vector(k, full)}, (signed * half)[:half], put=put)

    def test_put_by_the_wider_lanes(self):
        for k, put, lanes, signed in self.ROWS:
            before = {("v", 1): cycled(put, [9]), ("v", 2): vector(k, lanes), ("p", 3): 0b1010 | 1 << 512 // put}
            self.check(code(53, k, g=3), before, {("v", 1): vector(put, [9, lanes[1], 9, lanes[3]], 9)})
            self.check(code(54, k, g=3), before, {("v", 1): vector(put, [9, signed[1], 9, signed[3]], 9)})
            self.check(code(54, k, q=1, g=3), before, {("v", 1): vector(put, [0, signed[1], 0, signed[3]])})

    def test_widths(self):
        for operation in (53, 54, 55, 56, 57, 58):
            self.check_widths(operation, (8, 16, 32))


class Narrowing(Steps):
    # a's lanes, then cut (55), signed and held signed (56), held (57), signed and held without a sign (58)
    ROWS = {
        8: ([0x1234, 0x007F, 0x0080, 0x00FF, 0x0100, 0xFF80, 0xFF7F, 0xFFFF, 0x8000, 0x7FFF],
            [0x34, 0x7F, 0x80, 0xFF, 0x00, 0x80, 0x7F, 0xFF, 0x00, 0xFF],
            [0x7F, 0x7F, 0x7F, 0x7F, 0x7F, 0x80, 0x80, 0xFF, 0x80, 0x7F],
            [0xFF, 0x7F, 0x80, 0xFF, 0xFF, 0xFF, 0xFF, 0xFF, 0xFF, 0xFF],
            [0xFF, 0x7F, 0x80, 0xFF, 0xFF, 0x00, 0x00, 0x00, 0x00, 0xFF]),
        16: ([0x12345678, 0x7FFF, 0x8000, 0xFFFF, 0x10000, 0xFFFF8000, 0xFFFF7FFF, 0xFFFFFFFF],
             [0x5678, 0x7FFF, 0x8000, 0xFFFF, 0x0000, 0x8000, 0x7FFF, 0xFFFF],
             [0x7FFF, 0x7FFF, 0x7FFF, 0x7FFF, 0x7FFF, 0x8000, 0x8000, 0xFFFF],
             [0xFFFF, 0x7FFF, 0x8000, 0xFFFF, 0xFFFF, 0xFFFF, 0xFFFF, 0xFFFF],
             [0xFFFF, 0x7FFF, 0x8000, 0xFFFF, 0xFFFF, 0x0000, 0x0000, 0x0000]),
        32: ([0x123456789ABCDEF0, 0x7FFFFFFF, 0x80000000, 0xFFFFFFFF, 0x100000000, 0xFFFFFFFF80000000,
              0xFFFFFFFF7FFFFFFF, 0xFFFFFFFFFFFFFFFF],
             [0x9ABCDEF0, 0x7FFFFFFF, 0x80000000, 0xFFFFFFFF, 0, 0x80000000, 0x7FFFFFFF, 0xFFFFFFFF],
             [0x7FFFFFFF, 0x7FFFFFFF, 0x7FFFFFFF, 0x7FFFFFFF, 0x7FFFFFFF, 0x80000000, 0x80000000, 0xFFFFFFFF],
             [0xFFFFFFFF, 0x7FFFFFFF, 0x80000000, 0xFFFFFFFF, 0xFFFFFFFF, 0xFFFFFFFF, 0xFFFFFFFF, 0xFFFFFFFF],
             [0xFFFFFFFF, 0x7FFFFFFF, 0x80000000, 0xFFFFFFFF, 0xFFFFFFFF, 0, 0, 0]),
    }

    def test_lanes_half_as_wide_with_zeros_above(self):
        for k, row in self.ROWS.items():
            half = 256 // k
            for operation in (55, 56, 57, 58):
                lanes = (row[operation - 54] * half)[:half]
                self.check_lanes(operation, k, {("v", 2): cycled(2 * k, row[0])}, lanes + [0] * half)

    def test_put_by_the_narrower_lanes(self):
        for k in (8, 16, 32):
            half = 256 // k
            for operation in (55, 56, 57, 58):
                before = {("v", 1): cycled(k, [9]), ("v", 2): cycled(2 * k, [7]), ("p", 3): 0b110 | 1 << 2 * half - 1}
                self.check(code(operation, k, g=3), before,
                           {("v", 1): vector(k, [9, 7, 7] + [9] * (2 * half - 4) + [0])})
                self.check(code(operation, k, q=1, g=3), before, {("v", 1): vector(k, [0, 7, 7])})


class Neighbours(Steps):
    def test_sums(self):
        before = {("v", 2): [1, 2, 10, 20, ALL, 1, ALL, ALL], ("v", 3): [3, 4, 30, 40, 5, 6, 7, 8]}
        self.check_lanes(60, 64, before, [3, 7, 30, 70, 0, 11, ALL - 1, 15])
        before = {("v", 2): cycled(32, [1, 2, 0xFFFFFFFF, 3]), ("v", 3): cycled(32, [10, 20, 30, 40])}
        self.check(code(60, 32), before, {("v", 1): cycled(32, [3, 2, 30, 70])})
        before = {("v", 2): cycled(16, [1, 2, 3, 4, 5, 6, 0xFFFF, 8]), ("v", 3): cycled(16, [10, 20, 30, 40, 50, 60, 70, 80])}
        self.check(code(60, 16), before, {("v", 1): cycled(16, [3, 7, 11, 7, 30, 70, 110, 150])})
        before = {("v", 2): vector(8, groups(8, 0, 16)), ("v", 3): cycled(8, [255, 2] + list(range(14)))}
        lanes = []
        for first in (0, 16, 32, 48):
            lanes += [2 * (first + i) + 1 for i in range(0, 16, 2)] + [1, 1, 5, 9, 13, 17, 21, 25]
        self.check_lanes(60, 8, before, lanes)

    def test_differences(self):
        before = {("v", 2): [1, 2, 20, 10, ALL, 1, 0, ALL], ("v", 3): [4, 3, 30, 40, 5, 6, 8, 8]}
        self.check_lanes(61, 64, before, [ALL, 1, 10, ALL - 9, ALL - 1, ALL, 1, 0])
        before = {("v", 2): cycled(32, [1, 2, 9, 3]), ("v", 3): cycled(32, [20, 10, 30, 40])}
        self.check(code(61, 32), before, {("v", 1): cycled(32, [0xFFFFFFFF, 6, 10, 0xFFFFFFF6])})
        before = {("v", 2): cycled(16, [1, 2, 9, 4, 5, 6, 0, 1]), ("v", 3): cycled(16, [20, 10, 30, 40, 50, 60, 80, 70])}
        self.check(code(61, 16), before, {("v", 1): cycled(16, [0xFFFF, 5, 0xFFFF, 0xFFFF, 10, 0xFFF6, 0xFFF6, 10])})
        before = {("v", 2): cycled(8, [7, 2]), ("v", 3): cycled(8, [2, 7])}
        self.check(code(61, 8), before, {("v", 1): cycled(8, [5] * 8 + [251] * 8)})

    def test_sums_held(self):
        a = [0x7FFF, 1, 0x8000, 0xFFFF, 0x7FFE, 1, 0x8001, 0xFFFF]
        b = [0x7FFF, 0x7FFF, 0x8000, 0x8000, 0x7FFF, 0x8000, 3, 0xFFFE]
        before = {("v", 2): cycled(16, a), ("v", 3): cycled(16, b)}
        lanes = [0x7FFF, 0x8000, 0x7FFF, 0x8000, 0x7FFF, 0x8000, 0xFFFF, 1]
        self.check(code(62, 16), before, {("v", 1): cycled(16, lanes)})
        self.check_widths(62, (16,))

    def test_put_by_lanes_of_its_width(self):
        before = {("v", 1): [9] * 8, ("v", 2): [1, 2] * 4, ("v", 3): [7, 4] * 4, ("p", 2): 0b0110}
        self.check(code(60, 64, g=2), before, {("v", 1): [9, 11, 3, 9, 9, 9, 9, 9]})
        self.check(code(61, 64, q=1, g=2), before, {("v", 1): [0, 3, ALL, 0, 0, 0, 0, 0]})


class Singles(Steps):
    def test_a_lane_into_a_scalar(self):
        for k in WIDTHS:
            n = 512 // k
            lanes = [(1 << k) - 1 - i for i in range(n)]
            for z, place in ((0, 0), (3, 3), (n - 1, n - 1), (n, 0), (n + 2, 2), (-1, 0), (0x7FFFFFFF, n - 1)):
                before = {("v", 2): vector(k, lanes)}
                self.check(code(106, k, d=9, z=z), before, {("s", 9): lanes[place]})
                self.check(code(106, k, q=1, d=9, g=3, z=z), before, {("s", 9): lanes[place]})

    def test_a_scalar_into_a_lane(self):
        before = {("v", 1): [0] * 8, ("s", 2): 0x1122334455667788, ("p", 3): 0}
        for k, lane in ((8, 0x88), (16, 0x7788), (32, 0x55667788), (64, 0x1122334455667788)):
            n = 512 // k
            for z, place in ((0, 0), (3, 3), (n - 1, n - 1), (n, 0), (n + 2, 2), (-1, 0), (0x7FFFFFFF, n - 1)):
                after = {("v", 1): vector(k, [0] * place + [lane])}
                self.check(code(107, k, z=z), before, after)

    def test_a_scalar_into_a_lane_whatever_q_and_g(self):
        before = {("v", 1): D, ("s", 2): 5, ("p", 3): 0}
        self.check(code(107, 64, q=1, g=3, z=2), before, {("v", 1): [0xD0, 0xD1, 5, 0xD3, 0xD4, 0xD5, 0xD6, 0xD7]})


if __name__ == "__main__":
    unittest.main()
