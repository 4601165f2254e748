"""Promise 1: products and bits (63 to 72, 74 to 80), at any w but 78."""

import unittest

from helper import ALL, WIDTHS, Steps, ask, code, cycled, told, vector


class Products(Steps):
    def check_any(self, operation, before, after, z=0):
        """The answer in vector 1, whatever w is."""
        for k in WIDTHS:
            self.check(code(operation, k, z=z), before, {("v", 1): after})

    def check_put(self, operation, put, before, lane, z=0):
        """Lanes of this many bits, all alike, are put by the bits of predicate g, whatever w is."""
        mine = dict(before)
        mine.update({("p", 5): 0b0110, ("v", 1): cycled(put, [9])})
        for k in WIDTHS:
            self.check(code(operation, k, g=5, z=z), mine, {("v", 1): vector(put, [9, lane, lane], 9)})
            self.check(code(operation, k, q=1, g=5, z=z), mine, {("v", 1): vector(put, [0, lane, lane])})


class Distances(Products):
    def test_eight_bytes_summed(self):
        before = {("v", 2): vector(8, [0, 255, 10, 3, 4, 5, 6, 7] + [255] * 8 + [1]),
                  ("v", 3): vector(8, [255, 0, 7, 3, 4, 5, 7, 5] + [0] * 8 + [3])}
        self.check_any(63, before, [255 + 255 + 3 + 1 + 2, 2040, 2, 0, 0, 0, 0, 0])
        self.check_put(63, 64, {("v", 2): cycled(8, [3]), ("v", 3): cycled(8, [5])}, 16)

    def test_four_bytes_slid_along_a_group(self):
        # a counts 0, 1, 2 .. in each group; b's four bytes are alike, so each place's sum is easily told.
        a = cycled(8, range(16))
        b = cycled(8, [0] * 4 + [100] * 4 + [0, 1, 2, 3] + [255, 0, 255, 0])
        before = {("v", 2): a, ("v", 3): b}
        self.check_any(64, before, cycled(16, [4 * i + 6 for i in range(8)]), z=0)
        self.check_any(64, before, cycled(16, [4 * i + 22 for i in range(8)]), z=4)
        self.check_any(64, before, cycled(16, [400 - 4 * i - 6 for i in range(8)]), z=1)
        self.check_any(64, before, cycled(16, [400 - 4 * i - 22 for i in range(8)]), z=5)
        self.check_any(64, before, cycled(16, [4 * i for i in range(8)]), z=2)
        self.check_any(64, before, cycled(16, [4 * i + 16 for i in range(8)]), z=6)
        # 255 - i, i + 1, 255 - (i + 2) and i + 3: their sum is always 512.
        self.check_any(64, before, cycled(16, [512]), z=3)
        self.check_any(64, before, cycled(16, [4 * i + 16 for i in range(8)]), z=14)
        self.check_any(64, before, cycled(16, [4 * i + 6 for i in range(8)]), z=-2)

    def test_slid_bytes_stay_in_their_group(self):
        a = [0] * 16 + [9] * 16 + [0] * 32
        before = {("v", 2): vector(8, a), ("v", 3): cycled(8, [0])}
        self.check_any(64, before, vector(16, [0] * 8 + [36] * 8), z=7)
        self.check_put(64, 16, {("v", 2): cycled(8, [7]), ("v", 3): cycled(8, [2])}, 20, z=7)

    def test_least_of_eight_and_its_place(self):
        a = [5, 4, 3, 9, 3, 8, 8, 8] + [0xFFFF] * 8 + [9, 8, 7, 6, 5, 4, 3, 0] + [0, 0x8000, 0, 0, 0, 0, 0, 0]
        self.check_any(65, {("v", 2): vector(16, a)}, [0x20003, 0, 0xFFFF, 0, 0x70000, 0, 0, 0])

    def test_least_is_put_by_lanes_of_64(self):
        before = {("v", 1): [9] * 8, ("v", 2): cycled(16, [7, 6, 6, 7, 7, 7, 7, 7]), ("p", 5): 0b11100}
        for k in WIDTHS:
            self.check(code(65, k, g=5), before, {("v", 1): [9, 9, 0x10006, 0, 0x10006, 9, 9, 9]})
            self.check(code(65, k, q=1, g=5), before, {("v", 1): [0, 0, 0x10006, 0, 0x10006, 0, 0, 0]})


class Sums(Products):
    def test_bytes_by_signed_bytes_four_by_four(self):
        a = [1, 2, 3, 4, 255, 255, 255, 255, 255, 255, 255, 255, 0, 0, 0, 1]
        b = [1, 255, 2, 254, 127, 127, 127, 127, 128, 128, 128, 128, 0, 0, 0, 255]
        # 1 - 2 + 6 - 8 is -3; 4 * 255 * 127 is 129540; 4 * 255 * -128 is -130560; -1.
        before = {("v", 2): cycled(8, a), ("v", 3): cycled(8, b), ("v", 1): cycled(32, [10, 0x7FFFFFFF, 0x80000000, 0])}
        self.check_any(66, before, cycled(32, [7, 0x8001FA03, 0x7FFE0200, 0xFFFFFFFF]))
        self.check_any(67, before, cycled(32, [7, 0x7FFFFFFF, 0x80000000, 0xFFFFFFFF]))
        before["v", 1] = cycled(32, [0xFFFFFFFF, 0x7FFE05FB, 0x8001FE00, 1])
        self.check_any(66, before, cycled(32, [0xFFFFFFFC, 0x7FFFFFFF, 0x80000000, 0]))
        self.check_any(67, before, cycled(32, [0xFFFFFFFC, 0x7FFFFFFF, 0x80000000, 0]))
        alike = {("v", 2): cycled(8, [1]), ("v", 3): cycled(8, [255])}
        self.check_put(66, 32, alike, 5)
        self.check_put(67, 32, alike, 5)

    def test_signed_products_two_by_two(self):
        a = [1, 2, 0x8000, 0x8000, 0x7FFF, 0x7FFF, 0xFFFF, 0]
        b = [3, 0xFFFF, 0x8000, 0x8000, 0x8000, 0x8000, 1, 5]
        # 3 - 2 is 1; twice 2^30 is 2^31; twice -32768 * 32767 is -2147418112; -1.
        before = {("v", 2): cycled(16, a), ("v", 3): cycled(16, b), ("v", 1): cycled(32, [10, 0, 0, 0x80000000])}
        self.check_any(68, before, cycled(32, [11, 0x80000000, 0x80010000, 0x7FFFFFFF]))
        self.check_any(69, before, cycled(32, [11, 0x7FFFFFFF, 0x80010000, 0x80000000]))
        self.check_any(70, before, cycled(32, [1, 0x80000000, 0x80010000, 0xFFFFFFFF]))
        before["v", 1] = cycled(32, [0xFFFFFFFE, 0xFFFFFFFF, 0xFFFEFFFF, 2])
        self.check_any(68, before, cycled(32, [0xFFFFFFFF, 0x7FFFFFFF, 0x7FFFFFFF, 1]))
        self.check_any(69, before, cycled(32, [0xFFFFFFFF, 0x7FFFFFFF, 0x80000000, 1]))
        alike = {("v", 2): cycled(16, [2]), ("v", 3): cycled(16, [0xFFFF])}
        self.check_put(68, 32, alike, 5)
        self.check_put(69, 32, alike, 5)
        self.check_put(70, 32, alike, 0xFFFFFFFC)

    def test_bytes_by_signed_bytes_two_by_two(self):
        a = [1, 2, 255, 255, 255, 255, 255, 1, 128, 0]
        b = [3, 255, 127, 127, 128, 128, 127, 129, 255, 9]
        # 3 - 2; 64770 is held; -65280 is held; 32385 - 127; -128.
        before = {("v", 2): vector(8, a), ("v", 3): vector(8, b)}
        self.check_any(71, before, vector(16, [1, 0x7FFF, 0x8000, 0x7E02, 0xFF80]))
        self.check_put(71, 16, {("v", 2): cycled(8, [200]), ("v", 3): cycled(8, [254])}, 0xFCE0)

    def test_products_of_52_bits(self):
        low = (1 << 52) - 1
        a = [3, 1 << 51, low, ALL, 1 << 52, 5, 1, 1 << 26]
        b = [5, 2, low, ALL, 7, 7, 1, 1 << 26]
        d = [1, 2, 3, 4, 5, ALL - 34, ALL, ALL]
        # The square of 2^52 - 1 is 2^104 - 2^53 + 1: its lower 52 bits are 1, the rest 2^52 - 2.
        before = {("v", 1): d, ("v", 2): a, ("v", 3): b}
        self.check_any(79, before, [16, 2, 4, 5, 5, 0, 0, ALL])
        self.check_any(80, before, [1, 3, low + 2, low + 3, 5, ALL - 34, ALL, 0])
        before = {("v", 1): [0] * 8, ("v", 2): [1 << 51, 1 << 51, low, 3, 0, 0, 0, 0], ("v", 3): [1, 3, 1, 1 << 51, 9, 0, 0, 0]}
        self.check_any(79, before, [1 << 51, 1 << 51, low, 1 << 51, 0, 0, 0, 0])
        self.check_any(80, before, [0, 1, 0, 1, 0, 0, 0, 0])
        self.check_put(79, 64, {("v", 2): [6] * 8, ("v", 3): [7] * 8}, 51)
        self.check_put(80, 64, {("v", 2): [1 << 50] * 8, ("v", 3): [12] * 8}, 12)


class Bits(Products):
    def test_eight_bits_of_a_word_going_round(self):
        word = 0xFEDCBA9876543210
        before = {("v", 2): vector(8, [0, 4, 8, 60, 63, 64, 255, 128] + [0] * 8 + [56]), ("v", 3): [word, 0x42, word]}
        before["v", 3] += [0] * 5
        # From bit 60 on: 15, then 0 from the other end; from 63 on: 1, then 0x10 moved up by one.
        self.check_any(72, before, vector(8, [0x10, 0x21, 0x32, 0x0F, 0x21, 0x10, 0x21, 0x10] + [0x42] * 8 + [0xFE] + [0x10] * 7))
        self.check_put(72, 8, {("v", 2): cycled(8, [4]), ("v", 3): [word] * 8}, 0x21)

    def test_product_in_the_field(self):
        # 0x57 * 0x83 = 0xC1 and 0x57 * 0x13 = 0xFE are FIPS 197's own; 0x53 and 0xCA are each other's inverse.
        a = [0x57, 0x57, 0x53, 0x80, 0x02, 0xFF, 0x00, 0x01]
        b = [0x83, 0x13, 0xCA, 0x02, 0x80, 0x01, 0xFF, 0xFE]
        self.check_any(74, {("v", 2): cycled(8, a), ("v", 3): cycled(8, b)},
                       cycled(8, [0xC1, 0xFE, 0x01, 0x1B, 0x1B, 0xFF, 0x00, 0xFE]))
        self.check_put(74, 8, {("v", 2): cycled(8, [0x57]), ("v", 3): cycled(8, [0x83])}, 0xC1)

    def test_rows_of_bits(self):
        same = 0x0102040810204080
        turned = 0x8040201008040201
        self.check_any(75, {("v", 2): cycled(8, range(64)), ("v", 3): [same] * 8}, cycled(8, range(64)))
        before = {("v", 2): cycled(8, [0x01, 0x80, 0xF0, 0x12]), ("v", 3): [turned] * 8}
        self.check_any(75, before, cycled(8, [0x80, 0x01, 0x0F, 0x48]))
        self.check_any(75, before, cycled(8, [0x7F, 0xFE, 0xF0, 0xB7]), z=0xFF)
        self.check_any(75, before, cycled(8, [0x85, 0x04, 0x0A, 0x4D]), z=0x705)
        self.check_any(75, before, cycled(8, [0x80, 0x01, 0x0F, 0x48]), z=-1)
        # Row 0 is the highest byte: all ones there asks a's byte for its number of ones.
        before = {("v", 2): cycled(8, [0x07, 0x03, 0xFF, 0x80]), ("v", 3): [0xFF00000000000000] * 8}
        self.check_any(75, before, cycled(8, [1, 0, 0, 1]))
        before["v", 3] = [0xF0] + [0] * 7
        self.check_any(75, before, vector(8, [0, 0, 0, 0x80, 0, 0, 0, 0x80]))
        self.check_put(75, 8, {("v", 2): cycled(8, [0x12]), ("v", 3): [turned] * 8}, 0x49, z=1)

    def test_rows_of_bits_with_the_inverse(self):
        same = 0x0102040810204080
        before = {("v", 2): cycled(8, [0, 1, 2, 0x53, 0xCA, 0x8D]), ("v", 3): [same] * 8}
        self.check_any(76, before, cycled(8, [0, 1, 0x8D, 0xCA, 0x53, 2]))
        # The S-box of FIPS 197: these rows, then 0x63 turned.
        before = {("v", 2): cycled(8, [0x00, 0x01, 0x53, 0xFF]), ("v", 3): [0xF1E3C78F1F3E7CF8] * 8}
        self.check_any(76, before, cycled(8, [0x63, 0x7C, 0xED, 0x16]), z=0x63)
        self.check_any(76, before, cycled(8, [0x63, 0x7C, 0xED, 0x16]), z=0x7FFFFF63)
        self.check_any(76, before, cycled(8, [0xE3, 0xFC, 0x6D, 0x96]), z=0xE3)
        self.check_any(76, before, cycled(8, [0x00, 0x1F, 0x8E, 0x75]), z=-0x9D)
        self.check_put(76, 8, {("v", 2): cycled(8, [0x53]), ("v", 3): [same] * 8}, 0xCB, z=1)

    def test_every_byte_and_its_inverse_give_one(self):
        same = 0x0102040810204080
        for first in (0, 64, 128, 192):
            row = list(range(first, first + 64))
            inverse = told(ask(code(76), {("v", 2): vector(8, row), ("v", 3): [same] * 8}))["v", 1]
            product = [0 if x == 0 else 1 for x in row]
            self.check(code(74), {("v", 2): vector(8, row), ("v", 3): inverse}, {("v", 1): vector(8, product)})

    def test_products_without_carries(self):
        before = {("v", 2): [3, 5, ALL, 1, 0, 7, 1 << 63, 2], ("v", 3): [3, 6, ALL, 2, 9, 3, 1 << 63, 4]}
        # 3 by 3 is 5; all ones by all ones has a one at each even place; 2^63 by 2^63 is 2^126.
        self.check_any(77, before, [5, 0, 0x5555555555555555, 0x5555555555555555, 0, 0, 0, 1 << 62], z=0)
        self.check_any(77, before, [15, 0, ALL, 0, 63, 0, 0, 1], z=1)
        self.check_any(77, before, [10, 0, ALL - 1, 1, 0, 0, 0, 2], z=16)
        self.check_any(77, before, [30, 0, 2, 0, 9, 0, 8, 0], z=17)
        self.check_any(77, before, [30, 0, 2, 0, 9, 0, 8, 0], z=0x7FFFFFFF)
        self.check_any(77, before, [5, 0, 0x5555555555555555, 0x5555555555555555, 0, 0, 0, 1 << 62], z=0xEE)
        self.check_any(77, before, [5, 0, 0x5555555555555555, 0x5555555555555555, 0, 0, 0, 1 << 62], z=-1)

    def test_products_without_carries_are_put_by_lanes_of_64(self):
        before = {("v", 1): [9] * 8, ("v", 2): [ALL] * 8, ("v", 3): [2] * 8, ("p", 5): 0b10010}
        for k in WIDTHS:
            self.check(code(77, k, g=5), before, {("v", 1): [9, 1, 9, 9, ALL - 1, 9, 9, 9]})
            self.check(code(77, k, q=1, g=5), before, {("v", 1): [0, 1, 0, 0, ALL - 1, 0, 0, 0]})

    def test_same_numbers_before(self):
        self.check(code(78, 64), {("v", 2): [5, 5, 6, 5, 6, 0, 0, 5]}, {("v", 1): [0, 1, 0, 3, 4, 0, 32, 11]})
        lanes = [7] * 4 + [8] + [7] + list(range(100, 109)) + [7]
        self.check(code(78, 32), {("v", 2): vector(32, lanes)},
                   {("v", 1): vector(32, [0, 1, 3, 7, 0, 15] + [0] * 9 + [0x2F])})
        self.check(code(78, 32), {("v", 2): [0] * 8}, {("v", 1): vector(32, [(1 << i) - 1 for i in range(16)])})
        self.check_widths(78, (32, 64))
        before = {("v", 1): [9] * 8, ("v", 2): [1] * 8, ("p", 5): 0b1010}
        self.check(code(78, 64, g=5), before, {("v", 1): [9, 1, 9, 7, 9, 9, 9, 9]})
        self.check(code(78, 64, q=1, g=5), before, {("v", 1): [0, 1, 0, 7, 0, 0, 0, 0]})


if __name__ == "__main__":
    unittest.main()
