"""Promise 1: bits told of lanes (73, 81 to 85, 87) and predicates' own arithmetic (90 to 105)."""

import unittest

from helper import ALL, WIDTHS, Steps, code, cycled, vector


class Comparing(Steps):
    # a's and b's lanes: alike, less, more; then less and more only without a sign; then at the edges.
    def lanes(self, k):
        top = 1 << k - 1
        return ([5, 4, 6, 1, top, top, top - 1, 0], [5, 5, 5, top, 1, top - 1, top, 2 * top - 1])

    # By m: alike, less, not more, never, then the other way round.
    UNSIGNED = (0b00000001, 0b11001010, 0b11001011, 0, 0b11111110, 0b00110101, 0b00110100, 0b11111111)
    SIGNED = (0b00000001, 0b00110010, 0b00110011, 0, 0b11111110, 0b11001101, 0b11001100, 0b11111111)

    def test_each_way_at_each_width(self):
        for k in WIDTHS:
            a, b = self.lanes(k)
            before = {("v", 2): vector(k, a), ("v", 3): vector(k, b), ("p", 5): 0xFF}
            for m in range(8):
                for z in (m, m + 8, m + 0x7FFFFFF8):
                    self.check(code(81, k, d=4, g=5, z=z), before, {("p", 4): self.UNSIGNED[m]})
                    self.check(code(82, k, d=4, g=5, z=z), before, {("p", 4): self.SIGNED[m]})
            self.check(code(81, k, d=4, g=5, z=-3), before, {("p", 4): 1})
            self.check(code(82, k, d=4, g=5, z=-3), before, {("p", 4): 1})

    def test_all_lanes_and_no_more(self):
        for k in WIDTHS:
            every = (1 << 512 // k) - 1
            for operation in (81, 82):
                self.check(code(operation, k, d=4, z=0, a=2, b=2), {}, {("p", 4): every})
                self.check(code(operation, k, d=4, z=7), {}, {("p", 4): every})
                self.check(code(operation, k, d=4, z=3), {}, {("p", 4): 0})
                self.check(code(operation, k, d=4, z=4, a=2, b=2), {}, {("p", 4): 0})

    def test_g_besides_whatever_q(self):
        for operation in (81, 82, 84):
            for q in (0, 1):
                before = {("v", 2): [0] * 8, ("v", 3): [0] * 8, ("p", 6): 0xA5A5A5A5A5A5A5A5}
                for k, word in ((8, 0xA5A5A5A5A5A5A5A5), (16, 0xA5A5A5A5), (32, 0xA5A5), (64, 0xA5)):
                    self.check(code(operation, k, q=q, d=12, g=6), before, {("p", 4): word})

    def test_d_may_be_g(self):
        before = {("v", 2): [0] * 8, ("v", 3): [0] * 8, ("p", 6): 0xA5A5A5A5A5A5A5A5}
        self.check(code(81, 64, d=6, g=6), before, {("p", 6): 0xA5})

    def test_a_one_together_or_none(self):
        for k in WIDTHS:
            top = 1 << k - 1
            before = {("v", 2): vector(k, [1, 2, top, 0, 6, top | 1]), ("v", 3): vector(k, [1, 1, top, 0, 4, 2]),
                      ("p", 6): 0b110111}
            every = (1 << 512 // k) - 1
            self.check(code(83, k, d=3), before, {("p", 3): 0b010101})
            self.check(code(84, k, d=3), before, {("p", 3): every ^ 0b010101})
            self.check(code(83, k, d=3, g=6), before, {("p", 3): 0b010101})
            self.check(code(84, k, d=3, g=6), before, {("p", 3): 0b100010})

    def test_highest_bits(self):
        for k in WIDTHS:
            top = 1 << k - 1
            every = (1 << 512 // k) - 1
            before = {("v", 2): vector(k, [top, top - 1, 2 * top - 1, 0, 1, top]), ("p", 6): 0b1110}
            self.check(code(85, k, d=7), before, {("p", 7): 0b100101})
            self.check(code(85, k, d=7, g=6), before, {("p", 7): 0b000100})
            self.check(code(85, k, d=7), {("v", 2): [ALL] * 8}, {("p", 7): every})

    def test_bit_of_a_word_for_each_byte(self):
        before = {("v", 2): vector(8, [0, 1, 2, 3, 63, 64, 128, 255] + [5] * 8, 7), ("p", 6): 0xFF0F,
                  ("v", 3): [0x8000000000000005, 1 << 5, 0, 0, 0, 0, 0, 1 << 7]}
        for k in WIDTHS:
            self.check(code(73, k, d=1), before, {("p", 1): 0xFF0000000000FFF5})
            self.check(code(73, k, d=9, g=6), before, {("p", 1): 0xFF05})

    def test_lanes_somewhere_in_the_other(self):
        before = {("v", 2): [1, 2, 3, 4, 5, 6, 7, 7], ("v", 3): [9, 7, 2, 2, 0, 10, ALL, 1], ("p", 6): 0}
        for d in (4, 5, 12, 13):
            self.check(code(87, 64, d=d), before, {("p", 4): 0b11000011, ("p", 5): 0b10001110})
            self.check(code(87, 64, q=1, d=d, g=6), before, {("p", 4): 0b11000011, ("p", 5): 0b10001110})
        for d in (0, 1, 8, 9):
            self.check(code(87, 64, d=d), before, {("p", 1): 0b10001110})
        for d in (6, 7, 15):
            self.check(code(87, 64, d=d), before, {("p", 6): 0b11000011, ("p", 7): 0b10001110})
        before = {("v", 2): vector(32, range(16)), ("v", 3): vector(32, range(12, 28))}
        self.check(code(87, 32, d=2), before, {("p", 2): 0xF000, ("p", 3): 0x000F})
        self.check_widths(87, (32, 64))


class Arithmetic(Steps):
    A = 0x123456789ABCDEF0
    B = 0x0F0F0F0FF0F0F0F0
    ANSWERS = {
        90: (0xF0, 0xD0F0, 0x90B0D0F0, 0x0204060890B0D0F0),
        91: (0xF0, 0xFEF0, 0xFAFCFEF0, 0x1F3F5F7FFAFCFEF0),
        92: (0x00, 0x2E00, 0x6A4C2E00, 0x1D3B59776A4C2E00),
        93: (0xFF, 0xD1FF, 0x95B3D1FF, 0xE2C4A68895B3D1FF),
        94: (0x00, 0x2000, 0x60402000, 0x0D0B090760402000),
        95: (0x0F, 0x210F, 0x6543210F, 0xEDCBA9876543210F),
        96: (0xE0, 0xCFE0, 0x8BADCFE0, 0x214365888BADCFE0),
        99: (0x00, 0xF0F0, 0xDEF0F0F0, 0x9ABCDEF0F0F0F0F0),
    }

    def test_each_at_each_width(self):
        before = {("p", 2): self.A, ("p", 3): self.B}
        for operation, words in self.ANSWERS.items():
            for k, word in zip(WIDTHS, words):
                self.check(code(operation, k, d=5), before, {("p", 5): word})
                self.check(code(operation, k, q=1, d=13, a=10, b=11, g=6, z=-1), before, {("p", 5): word})

    def test_halves_of_eight_bits(self):
        self.check(code(99, 8, d=5), {("p", 2): 0xAB, ("p", 3): 0xCD}, {("p", 5): 0xBD})

    def test_sums_are_cut(self):
        for k in WIDTHS:
            before = {("p", 2): ALL, ("p", 3): 3}
            self.check(code(96, k, d=5), before, {("p", 5): 2})

    def test_predicate_zero_is_all_ones(self):
        for k in WIDTHS:
            every = (1 << k) - 1
            before = {("p", 0): 0, ("p", 3): 0}
            self.check(code(90, k, d=5, a=0, b=8), before, {("p", 5): every})
            self.check(code(95, k, d=5, a=0), before, {("p", 5): 0})
            self.check(code(95, k, d=5, a=3), before, {("p", 5): every})

    def test_left(self):
        before = {("p", 2): 0x8000000080008081}
        for k, words in ((8, (0x81, 0x02, 0x80, 0)), (16, (0x8081, 0x0102, 0x4080, 0x8100)),
                         (32, (0x80008081, 0x00010102, 0x00404080, 0x00808100)),
                         (64, (0x8000000080008081, 0x0000000100010102, 0x0000004000404080, 0x0000008000808100))):
            for m, word in zip((0, 1, 7, 8), words):
                self.check(code(97, k, d=5, z=m), before, {("p", 5): word})
                self.check(code(97, k, d=5, z=m + 256), before, {("p", 5): word})
            self.check(code(97, k, d=5, z=k - 1), before, {("p", 5): 1 << k - 1})
            for m in (k, 255, 0x7FFFFFFF):
                self.check(code(97, k, d=5, z=m), before, {("p", 5): 0})
            self.check(code(97, k, d=5, z=-1), before, {("p", 5): words[0]})

    def test_right(self):
        before = {("p", 2): 0x8000000080008081}
        for k, words in ((8, (0x81, 0x40, 0x01, 0)), (16, (0x8081, 0x4040, 0x0101, 0x80)),
                         (32, (0x80008081, 0x40004040, 0x01000101, 0x00800080)),
                         (64, (0x8000000080008081, 0x4000000040004040, 0x0100000001000101, 0x0080000000800080))):
            for m, word in zip((0, 1, 7, 8), words):
                self.check(code(98, k, d=5, z=m), before, {("p", 5): word})
                self.check(code(98, k, d=5, z=m + 256), before, {("p", 5): word})
            self.check(code(98, k, d=5, z=k - 1), before, {("p", 5): 1})
            for m in (k, 255, 0x7FFFFFFF):
                self.check(code(98, k, d=5, z=m), before, {("p", 5): 0})
            self.check(code(98, k, d=5, z=-1), before, {("p", 5): words[0]})


class Passing(Steps):
    WORDS = ((8, 0xF0), (16, 0xDEF0), (32, 0x9ABCDEF0), (64, 0x123456789ABCDEF0))

    def test_predicate_to_scalar(self):
        for k, word in self.WORDS:
            for a in (2, 10):
                self.check(code(100, k, d=14, a=a), {("p", 2): 0x123456789ABCDEF0}, {("s", 14): word})

    def test_scalar_to_predicate(self):
        for k, word in self.WORDS:
            for d in (6, 14):
                self.check(code(101, k, d=d, a=13), {("s", 13): 0x123456789ABCDEF0}, {("p", 6): word})

    def test_flags_of_either(self):
        for k in WIDTHS:
            every = (1 << k) - 1
            above = ALL ^ every
            for x, y, flags in ((0, 0, 1), (above, above, 1), (every, 0, 2), (0, every, 2), (every - 1, 1, 2),
                                (every - 1, every - 1, 0), (1, 0, 0), (0, 1 << k - 1, 0), (above, 1, 0)):
                for given in (0, 3):
                    before = {("p", 2): x, ("p", 3): y, "flags": given}
                    self.check(code(102, k), before, {"flags": flags})
                    self.check(code(102, k, a=10, b=11), before, {"flags": flags})

    def test_flags_of_both(self):
        for k in WIDTHS:
            every = (1 << k) - 1
            above = ALL ^ every
            for x, y, flags in ((0, 0, 3), (above, above, 3), (every, every, 2), (0, every, 1), (every, 0, 3),
                                (1, 3, 0), (3, 1, 2), (2, 1, 1), (0, above, 3), (every, above | 1, 2)):
                for given in (0, 3):
                    before = {("p", 2): x, ("p", 3): y, "flags": given}
                    self.check(code(103, k), before, {"flags": flags})
                    self.check(code(103, k, a=10, b=11), before, {"flags": flags})

    def test_place_of_the_lowest_one(self):
        for k in WIDTHS:
            every = (1 << k) - 1
            for x, place in ((1, 0), (0b1010000, 4), (1 << k - 1, k - 1), (ALL, 0), (0, k), (ALL ^ every, k)):
                for a in (2, 10):
                    self.check(code(104, k, d=15, a=a), {("p", 2): x}, {("s", 15): place})

    def test_how_many_ones(self):
        for k in WIDTHS:
            every = (1 << k) - 1
            for x, count in ((1, 1), (0b1010000, 2), (1 << k - 1, 1), (ALL, k), (0, 0), (ALL ^ every, 0)):
                for a in (2, 10):
                    self.check(code(105, k, d=15, a=a), {("p", 2): x}, {("s", 15): count})
            self.check(code(105, k, d=15, a=0), {("p", 0): 0}, {("s", 15): k})


if __name__ == "__main__":
    unittest.main()
