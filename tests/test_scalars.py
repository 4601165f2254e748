"""Promise 1: scalars (130 to 140)."""

import unittest

from helper import ALL, WIDTHS, Steps, code

TOP = 1 << 63


class Scalars(Steps):
    def check_scalar(self, operation, x, y, word, z=0):
        for k in WIDTHS:
            for q, g in ((0, 0), (1, 5)):
                before = {("s", 14): x, ("s", 9): y}
                self.check(code(operation, k, q=q, d=12, a=14, b=9, g=g, z=z), before, {("s", 12): word})

    def test_a_and_z(self):
        self.check_scalar(130, 5, 77, 12, z=7)
        self.check_scalar(130, 5, 77, ALL, z=-6)
        self.check_scalar(130, ALL, 77, 0x7FFFFFFE, z=0x7FFFFFFF)
        self.check_scalar(130, 0, 77, 0xFFFFFFFF80000000, z=-0x80000000)

    def test_sums(self):
        self.check_scalar(131, 5, 7, 12, z=-1)
        self.check_scalar(131, ALL, 2, 1)

    def test_differences(self):
        self.check_scalar(132, 7, 5, 2)
        self.check_scalar(132, 5, 7, ALL - 1)

    def test_products(self):
        self.check_scalar(133, 5, 7, 35)
        self.check_scalar(133, ALL, ALL, 1)
        self.check_scalar(133, TOP, 3, TOP)

    def test_bits(self):
        self.check_scalar(134, 0xCC, 0xAA, 0x88)
        self.check_scalar(135, 0xCC, 0xAA, 0xEE)
        self.check_scalar(136, 0xCC, 0xAA, 0x66)
        self.check_scalar(136, ALL, TOP, TOP - 1)

    def test_left(self):
        self.check_scalar(137, 1, 63, TOP)
        self.check_scalar(137, ALL, 1, ALL - 1)
        self.check_scalar(137, 5, 64, 5)
        self.check_scalar(137, 5, 65, 10)
        self.check_scalar(137, 3, ALL, TOP)

    def test_right(self):
        self.check_scalar(138, TOP, 63, 1)
        self.check_scalar(138, TOP, 1, 1 << 62)
        self.check_scalar(138, 5, 64, 5)
        self.check_scalar(138, 5, 65, 2)
        self.check_scalar(138, ALL, ALL, 1)

    def test_z_alone(self):
        self.check_scalar(139, 1, 2, 99, z=99)
        self.check_scalar(139, 1, 2, ALL, z=-1)
        self.check_scalar(139, 1, 2, 0)

    def test_flags(self):
        for k in WIDTHS:
            for given in range(4):
                for x, y, flags in ((5, 5, 1), (4, 5, 2), (6, 5, 0), (0, ALL, 2), (ALL, 0, 0), (TOP, TOP - 1, 0),
                                    (TOP - 1, TOP, 2), (ALL, ALL, 1)):
                    before = {("s", 14): x, ("s", 9): y, "flags": given}
                    self.check(code(140, k, d=12, a=14, b=9, z=-1), before, {"flags": flags})


if __name__ == "__main__":
    unittest.main()
