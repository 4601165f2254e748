"""Promise 2: ways (120 to 127), taken and not taken."""

import unittest

from helper import ALL, CODE, WAYS, WIDTHS, Runs, code

NEXT = CODE + 8
LEAST = -0x80000000
GREATEST = 0x7FFFFFFF
# From the place behind the way: forward, to it, to the way itself, further back, to 0, and to the word below 0.
LEAPS = ((80, NEXT + 80), (0, NEXT), (-8, CODE), (-24, CODE - 16), (3, NEXT + 3), (-NEXT, 0), (-NEXT - 1, ALL),
         (LEAST, (1 << 64) - (1 << 31) + NEXT), (GREATEST, NEXT + GREATEST))


class Ways(Runs):
    def check_way(self, operation, before, after, place, z=0, **fields):
        """One step of this way, which leads to the place."""
        for k in WIDTHS:
            for q, g in ((0, 0), (1, 5)):
                words = [code(operation, k, q=q, g=g, z=z, **fields)]
                self.check_run(words, before, after, ended=(1, 0, place))

    def check_taken(self, operation, flags):
        for z, place in LEAPS:
            self.check_way(operation, {"flags": flags}, {}, place, z)

    def check_not_taken(self, operation, flags):
        for z, place in LEAPS:
            self.check_way(operation, {"flags": flags}, {}, NEXT, z)

    def test_always(self):
        for flags in range(4):
            self.check_taken(120, flags)

    def test_by_z(self):
        for flags in (1, 3):
            self.check_taken(121, flags)
            self.check_not_taken(122, flags)
        for flags in (0, 2):
            self.check_not_taken(121, flags)
            self.check_taken(122, flags)

    def test_by_c(self):
        for flags in (2, 3):
            self.check_taken(123, flags)
            self.check_not_taken(124, flags)
        for flags in (0, 1):
            self.check_not_taken(123, flags)
            self.check_taken(124, flags)

    def test_bits_beyond_z_and_c_take_no_way(self):
        for operation, place in ((121, NEXT), (122, CODE), (123, NEXT), (124, CODE)):
            self.check_way(operation, {"flags": 0xFFFFFFFC}, {}, place, -8)

    def test_counting_down(self):
        for number in (0, 1, 7, 15):
            for z, place in LEAPS:
                for count, less in ((2, 1), (3, 2), (0, ALL), (ALL, ALL - 1), (1 << 63, (1 << 63) - 1)):
                    self.check_run([code(125, d=number, z=z)], {("s", number): count}, {("s", number): less},
                                   ended=(1, 0, place))
                self.check_run([code(125, d=number, z=z)], {("s", number): 1}, {("s", number): 0}, ended=(1, 0, NEXT))

    def test_counting_down_at_any_width(self):
        # All 64 bits count, whatever w is.
        self.check_way(125, {("s", 1): 0x100000001}, {("s", 1): 0x100000000}, CODE, -8)
        self.check_way(125, {("s", 1): 1}, {("s", 1): 0}, NEXT, -8)

    def test_counting_down_leaves_the_flags(self):
        for flags in range(4):
            for count, place in ((1, NEXT), (2, CODE)):
                self.check_way(125, {("s", 1): count, "flags": flags}, {("s", 1): count - 1}, place, -8)

    def test_keeping_the_next_place(self):
        for number in (0, 1, 15):
            for z, place in LEAPS:
                self.check_run([code(126, d=number, z=z)], {}, {("s", number): NEXT}, ended=(1, 0, place))
        self.check_way(126, {}, {("s", 4): NEXT}, CODE + 40, 32, d=4)

    def test_on_at_a_scalar(self):
        for number in (0, 2, 15):
            for place in (0, CODE, NEXT, 65528, 65529, 65536, 1 << 63, ALL):
                for z in (0, 64, -8):
                    self.check_run([code(127, a=number, z=z)], {("s", number): place}, {}, ended=(1, 0, place))
        self.check_way(127, {("s", 2): 77}, {}, 77, -8)

    def test_there_and_back(self):
        words = [
            code(126, d=4, z=16),               # to the fourth, and back to the second
            code(139, d=5, z=50),
            code(0),
            code(139, d=6, z=60),
            code(127, a=4),
        ]
        self.check_run(words, {}, {("s", 4): CODE + 8, ("s", 5): 50, ("s", 6): 60}, steps=100,
                       ended=(4, 1, CODE + 16))

    def test_there_and_back_twice_by_one_scalar(self):
        words = [
            code(126, d=4, z=16),               # to the fourth
            code(126, d=4, z=8),                # to the fourth once more
            code(0),
            code(130, d=5, a=5, z=1),
            code(127, a=4),
        ]
        self.check_run(words, {("s", 5): 0}, {("s", 4): CODE + 16, ("s", 5): 2}, steps=100, ended=(6, 1, CODE + 16))

    def test_127_at_the_place_that_126_keeps(self):
        # 126 with z 0 goes on at the next; 127 then goes there over and over.
        words = [code(126, d=4), code(127, a=4)]
        self.check_run(words, {}, {("s", 4): NEXT}, steps=9, ended=(9, 0, NEXT))

    def test_a_way_to_itself(self):
        self.check_run([code(120, z=-8)], {}, {}, steps=1000, ended=(1000, 0, CODE))
        self.check_run([code(125, z=-8)], {("s", 1): 1000}, {("s", 1): 0}, steps=5000, ended=(1000, 1, NEXT))
        self.check_run([code(125, z=-8)], {("s", 1): 1000}, {("s", 1): 1}, steps=999, ended=(999, 0, CODE))
        self.check_run([code(127)], {("s", 2): CODE}, {}, steps=1000, ended=(1000, 0, CODE))

    def test_a_way_out_of_memory_is_a_step_and_then_it_stops(self):
        for z, place in ((LEAST, (1 << 64) - (1 << 31) + NEXT), (GREATEST, NEXT + GREATEST), (-NEXT - 1, ALL),
                         (65536 - NEXT, 65536), (65529 - NEXT, 65529)):
            self.check_run([code(120, z=z)], {}, {}, steps=1, ended=(1, 0, place))
            self.check_run([code(120, z=z)], {}, {}, steps=2, ended=(1, 4, place))
            self.check_run([code(126, d=4, z=z)], {}, {("s", 4): NEXT}, steps=2, ended=(1, 4, place))
        self.check_run([code(127)], {("s", 2): ALL}, {}, steps=2, ended=(1, 4, ALL))

    def test_places_need_not_be_eights(self):
        # From 3 bytes further the instruction is read there, not at the eight around it.
        data = {CODE + 8 + 3: [139, 0, 0x05, 0, 77, 0, 0, 0]}
        self.check_run([code(120, z=3)], {}, {("s", 5): 77}, data=data, steps=2, ended=(2, 0, CODE + 19))

    def test_no_instruction_goes_no_way(self):
        for operation in WAYS:
            self.check_stop(code(operation, z=-8) | 8 << 8, {("s", 1): 5}, 3)
            self.check_stop(code(operation, z=-8) | 1 << 31, {("s", 1): 5}, 3)

    def test_from_the_last_place(self):
        last = 65528
        data = {last: [126, 0, 0x04, 0, 0, 0, 0, 0]}
        self.check_run([], {}, {("s", 4): 65536}, data=data, steps=1, ended=(1, 0, 65536), place=last)
        self.check_run([], {}, {("s", 4): 65536}, data=data, steps=2, ended=(1, 4, 65536), place=last)


if __name__ == "__main__":
    unittest.main()
