"""Promise 2: what is loaded from memory and stored there (110 to 118)."""

import unittest

from helper import ALL, CODE, MEMORY, WIDTHS, Runs, as_bytes, code, vector

DATA = 0x1000
END = 65536
EIGHT = [11, 12, 13, 14, 15, 16, 17, 18]
CHOSEN = 0b10110010
LANES = (110, 111, 112, 113, 114, 115, 116)
LOADS = (110, 112, 114, 116)
STORES = (111, 113, 115)


def minus(number, k):
    return (1 << k) - number


class Loads(Runs):
    def check_load(self, operation, k, lanes, before=None, data=None, g=0, q=0):
        """The lanes that come into vector 1, which held nines; the predicates that choose are 0 and 6."""
        state = {("v", 1): vector(k, [], 9), ("p", 6): CHOSEN, ("s", 3): DATA}
        state.update(before or {})
        rest = 0 if q else 9
        rows = {DATA: as_bytes(k, EIGHT)} if data is None else data
        self.check_run([code(operation, k, q=q, g=g)], state, {("v", 1): vector(k, lanes, rest)}, data=rows)

    def test_all_lanes_are_the_64_bytes_from_at_on(self):
        row = list(range(100, 164))
        for k in WIDTHS:
            for operation in (110, 112):
                for q in (0, 1):
                    before = {("s", 3): DATA + 3}
                    after = {("v", 1): vector(8, row)}
                    data = {DATA: [1, 2, 3] + row + [4, 5]}
                    self.check_run([code(operation, k, q=q)], before, after, data=data)

    def test_lane_by_lane(self):
        for k in WIDTHS:
            self.check_load(110, k, [9, 12, 9, 9, 15, 16, 9, 18], g=6)
            self.check_load(110, k, [0, 12, 0, 0, 15, 16, 0, 18], g=6, q=1)

    def test_chosen_lanes_one_after_another(self):
        for k in WIDTHS:
            self.check_load(112, k, [9, 11, 9, 9, 12, 13, 9, 14], g=6)
            self.check_load(112, k, [0, 11, 0, 0, 12, 13, 0, 14], g=6, q=1)

    def test_by_signed_lanes(self):
        for k in WIDTHS:
            before = {("v", 2): vector(k, [0, 3, 5, 5, minus(4, k), 0, 1, minus(1, k)]), ("s", 3): DATA + k // 2}
            # At is at the 15: 0 is 15, 3 is 18, -4 is 11, -1 is 14.
            self.check_load(114, k, [9, 18, 9, 9, 11, 15, 9, 14], before, g=6)
            self.check_load(114, k, [0, 18, 0, 0, 11, 15, 0, 14], before, g=6, q=1)

    def test_by_signed_lanes_all_of_them(self):
        for k in WIDTHS:
            count = 512 // k
            before = {("v", 2): vector(k, [3, 2, 1, 0, minus(1, k), minus(2, k), minus(3, k), minus(4, k)]),
                      ("s", 3): DATA + k // 2}
            lanes = [18, 17, 16, 15, 14, 13, 12, 11] + [15] * (count - 8)
            self.check_load(114, k, lanes, before)

    def test_by_the_farthest_lanes_of_8_bits(self):
        before = {("v", 2): vector(8, [127, 128, 255]), ("p", 6): 7}
        self.check_load(114, 8, [7, 8, 6], before, data={DATA - 128: [8], DATA - 1: [6], DATA + 127: [7]}, g=6)

    def test_by_the_farthest_lanes_of_16_bits(self):
        before = {("v", 2): vector(16, [0x1000, 0xF800]), ("p", 6): 3}
        self.check_load(114, 16, [0x201, 0x403], before, data={DATA + 0x2000: [1, 2], 0: [3, 4]}, g=6)
        before = {("v", 2): vector(16, [0x7FFF]), ("p", 6): 1, ("s", 3): 0}
        self.check_load(114, 16, [0x605], before, data={65534: [5, 6]}, g=6)
        before = {("v", 2): vector(16, [0x8000]), ("p", 6): 1, ("s", 3): 65536}
        self.check_load(114, 16, [0x807], before, data={0: [7, 8]}, g=6)

    def test_into_the_vector_that_told_the_places(self):
        before = {("v", 1): vector(64, [1, 0, ALL, 7]), ("s", 3): DATA + 32, ("p", 6): 0b0111}
        words = [code(114, 64, d=1, a=1, g=6)]
        self.check_run(words, before, {("v", 1): vector(64, [16, 15, 14, 7])}, data={DATA: as_bytes(64, EIGHT)})

    def test_all_alike(self):
        for k in WIDTHS:
            self.check_load(116, k, [11] * (512 // k))
            self.check_load(116, k, [9, 11, 9, 9, 11, 11, 9, 11], g=6)
            self.check_load(116, k, [0, 11, 0, 0, 11, 11, 0, 11], g=6, q=1)

    def test_the_lowest_byte_lies_first(self):
        row = [1, 2, 3, 4, 5, 6, 7, 8]
        for k, lane in ((8, 1), (16, 0x201), (32, 0x4030201), (64, 0x807060504030201)):
            self.check_load(116, k, [lane] * (512 // k), data={DATA: row})
            self.check_load(110, k, [lane], {("p", 6): 1}, data={DATA: row}, g=6)

    def test_scalars(self):
        row = [0xF1, 0xF2, 0xF3, 0xF4, 0xF5, 0xF6, 0xF7, 0xF8, 0xF9]
        for k, word in ((8, 0xF1), (16, 0xF2F1), (32, 0xF4F3F2F1), (64, 0xF8F7F6F5F4F3F2F1)):
            for q, g in ((0, 0), (1, 0), (0, 6), (1, 6)):
                before = {("s", 3): DATA, ("p", 6): 0}
                self.check_run([code(117, k, q=q, d=5, g=g)], before, {("s", 5): word}, data={DATA: row})

    def test_a_scalar_into_the_one_that_tells_the_place(self):
        self.check_run([code(117, 16, d=3)], {("s", 3): DATA}, {("s", 3): 0x201}, data={DATA: [1, 2, 3]})

    def test_every_vector_scalar_and_predicate_can_be_named(self):
        for number in range(16):
            before = {("s", number): DATA, ("p", number % 8): 1}
            g = number % 8
            lanes = [77] + [0] * 7 if g else [77, 78, 79, 80, 81, 82, 83, 84]
            data = {DATA: as_bytes(64, [77, 78, 79, 80, 81, 82, 83, 84])}
            words = [code(110, 64, q=1, d=15 - number, a=9, b=number, g=g)]
            self.check_run(words, before, {("v", 15 - number): lanes}, data=data)


class Stores(Runs):
    def check_store(self, operation, k, stored, before=None, g=0, q=0, under=255):
        """What comes to lie over bytes of 255; vector 1 holds 11 to 18 in its lowest lanes and sevens above."""
        state = {("v", 1): vector(k, EIGHT, 7), ("p", 6): CHOSEN, ("s", 3): DATA}
        state.update(before or {})
        data = {DATA - 64: [under] * 640}
        self.check_run([code(operation, k, q=q, g=g)], state, {}, stored, data=data)

    def test_all_lanes_are_the_64_bytes_from_at_on(self):
        row = list(range(100, 164))
        for k in WIDTHS:
            for operation in (111, 113):
                for q in (0, 1):
                    before = {("v", 1): vector(8, row), ("s", 3): DATA + 3}
                    self.check_store(operation, k, {DATA + 3: row}, before, q=q)

    def test_lane_by_lane(self):
        for k in WIDTHS:
            size = k // 8
            stored = {DATA + size: as_bytes(k, [12]), DATA + 4 * size: as_bytes(k, [15, 16]),
                      DATA + 7 * size: as_bytes(k, [18])}
            for q in (0, 1):
                self.check_store(111, k, stored, g=6, q=q)

    def test_chosen_lanes_one_after_another(self):
        for k in WIDTHS:
            for q in (0, 1):
                self.check_store(113, k, {DATA: as_bytes(k, [12, 15, 16, 18])}, g=6, q=q)

    def test_by_signed_lanes(self):
        for k in WIDTHS:
            size = k // 8
            before = {("v", 2): vector(k, [3, 3, 3, 3, minus(4, k), 0, 0, minus(1, k)])}
            stored = {DATA + 3 * size: as_bytes(k, [12]), DATA - 4 * size: as_bytes(k, [15]),
                      DATA: as_bytes(k, [16]), DATA - size: as_bytes(k, [18])}
            for q in (0, 1):
                self.check_store(115, k, stored, before, g=6, q=q)

    def test_of_two_lanes_at_one_place_the_higher_stays(self):
        for k in WIDTHS:
            size = k // 8
            before = {("v", 2): vector(k, [2, 1, 2, 2, 1, 2, 0, 2])}
            # Lanes 1 and 4 go to place 1, lanes 5 and 7 to place 2.
            self.check_store(115, k, {DATA + size: as_bytes(k, [15, 18])}, before, g=6)
            before = {("v", 2): vector(k, []), ("p", 6): 0b00001111}
            self.check_store(115, k, {DATA: as_bytes(k, [14])}, before, g=6)

    def test_all_lanes_at_one_place(self):
        for k in WIDTHS:
            count = 512 // k
            before = {("v", 1): vector(k, list(range(1, count + 1))), ("v", 2): vector(k, [])}
            self.check_store(115, k, {DATA: as_bytes(k, [count])}, before)

    def test_a_vector_that_tells_its_own_places(self):
        words = [code(115, 64, d=2, a=2, g=6)]
        before = {("v", 2): vector(64, [5, 0, 1, ALL]), ("s", 3): DATA, ("p", 6): 0b1111}
        stored = {DATA + 40: as_bytes(64, [5]), DATA: as_bytes(64, [0, 1]), DATA - 8: as_bytes(64, [ALL])}
        self.check_run(words, before, {}, stored, data={DATA - 64: [255] * 256})

    def test_scalars(self):
        for k, row in ((8, [1]), (16, [1, 2]), (32, [1, 2, 3, 4]), (64, [1, 2, 3, 4, 5, 6, 7, 8])):
            for q, g in ((0, 0), (1, 0), (0, 6), (1, 6)):
                before = {("s", 3): DATA, ("s", 5): 0x807060504030201, ("p", 6): 0}
                words = [code(118, k, q=q, d=5, g=g)]
                self.check_run(words, before, {}, {DATA: row}, data={DATA: [255] * 16})

    def test_a_scalar_at_its_own_place(self):
        self.check_run([code(118, 64, d=3)], {("s", 3): DATA}, {}, {DATA: as_bytes(64, [DATA])})

    def test_beside_what_was_handed_over(self):
        words = [code(118, 64, d=5)]
        before = {("s", 3): 0x40, ("s", 5): 0x0102030405060708}
        self.check_run(words, before, {}, {0x40: [8, 7, 6, 5, 4, 3, 2, 1]})


class At(Runs):
    def check_at(self, base, z, place):
        """117 and 118, and the first lane of those of lanes, go to the place."""
        before = {("s", 3): base, ("s", 5): 0xABCD, ("p", 6): 1, ("v", 1): vector(16, [0xABCD]),
                  ("v", 2): vector(16, [])}
        data = {place: [1, 2]}
        self.check_run([code(117, 16, d=5, z=z)], before, {("s", 5): 0x201}, data=data)
        self.check_run([code(118, 16, d=5, z=z)], before, {}, {place: [0xCD, 0xAB]}, data=data)
        for operation in LOADS:
            words = [code(operation, 16, q=1, g=6, z=z)]
            self.check_run(words, before, {("v", 1): vector(16, [0x201])}, data=data)
        for operation in STORES:
            self.check_run([code(operation, 16, g=6, z=z)], before, {}, {place: [0xCD, 0xAB]}, data=data)

    def test_z_above_zero(self):
        self.check_at(DATA, 5, DATA + 5)
        self.check_at(0, 0x1234, 0x1234)

    def test_z_below_zero(self):
        self.check_at(DATA, -5, DATA - 5)
        self.check_at(0x80001000, -0x80000000, DATA)

    def test_wrapping(self):
        self.check_at(ALL, DATA + 1, DATA)
        self.check_at(ALL - 0x7FFFFFFE + DATA, 0x7FFFFFFF, DATA)

    def test_lanes_wrap_like_at(self):
        # At is 8 below 2^64; lanes 1 to 7 lie from 0 on.
        before = {("s", 3): 0, ("p", 6): 0b11111110}
        words = [code(110, 64, q=1, g=6, z=-8)]
        self.check_run(words, before, {("v", 1): vector(64, [0] + EIGHT[:7])}, data={0: as_bytes(64, EIGHT)})
        before = {("s", 3): ALL, ("v", 2): vector(32, [1, 2, 3]), ("p", 6): 0b101}
        words = [code(114, 32, q=1, g=6, z=-3)]
        self.check_run(words, before, {("v", 1): vector(32, [11, 0, 13])}, data={0: as_bytes(32, EIGHT)})

    def test_w_does_not_change_at(self):
        for k in WIDTHS:
            before = {("s", 3): DATA}
            words = [code(117, k, d=5, z=3)]
            self.check_run(words, before, {("s", 5): 77}, data={DATA + 3: [77]})


class NotThere(Runs):
    """Stop 4, and nothing is done."""

    def test_places_outside_stop_every_operation(self):
        for place in (END, END + 1, 1 << 32, (1 << 32) + DATA, 1 << 63, ALL - 7, ALL - 6, ALL):
            for operation in MEMORY:
                for k in WIDTHS:
                    before = {("s", 3): place, ("v", 2): vector(k, []), ("p", 6): 1}
                    self.check_stop(code(operation, k, g=6), before, 4)

    def test_one_byte_too_few(self):
        for k in (16, 32, 64):
            for missing in range(1, k // 8):
                for operation in MEMORY:
                    before = {("s", 3): END - k // 8 + missing, ("v", 2): vector(k, []), ("p", 6): 1}
                    self.check_stop(code(operation, k, g=6), before, 4)

    def test_the_very_end_is_there(self):
        for k in WIDTHS:
            size = k // 8
            for operation in LOADS + (117,):
                before = {("s", 3): END - size, ("v", 2): vector(k, []), ("p", 6): 1}
                after = {("s", 1): 5} if operation == 117 else {("v", 1): vector(k, [5])}
                words = [code(operation, k, q=1, g=6)]
                self.check_run(words, before, after, data={END - size: as_bytes(k, [5])})
            for operation in STORES + (118,):
                before = {("s", 3): END - size, ("v", 2): vector(k, []), ("p", 6): 1, ("v", 1): vector(k, [6]),
                          ("s", 1): 6}
                self.check_run([code(operation, k, g=6)], before, {}, {END - size: as_bytes(k, [6])})

    def test_a_whole_vector_at_the_very_end(self):
        row = list(range(100, 164))
        for k in WIDTHS:
            for operation in (110, 112):
                data = {END - 64: row}
                words = [code(operation, k)]
                self.check_run(words, {("s", 3): END - 64}, {("v", 1): vector(8, row)}, data=data)
                self.check_stop(words[0], {("s", 3): END - 63}, 4, data)
            for operation in (111, 113):
                before = {("v", 1): vector(8, row), ("s", 3): END - 64}
                self.check_run([code(operation, k)], before, {}, {END - 64: row})
                before = {("v", 1): vector(8, row), ("s", 3): END - 63}
                self.check_stop(code(operation, k), before, 4)

    def test_lanes_that_are_not_chosen_are_not_looked_at(self):
        for k in WIDTHS:
            size = k // 8
            # Lanes 0 and 1 are there, the others aren't.
            before = {("s", 3): END - 2 * size, ("p", 6): 0b10, ("v", 1): vector(k, [7, 8], 9),
                      ("v", 2): vector(k, [9, 1], 9)}
            data = {END - 2 * size: as_bytes(k, [5, 6])}
            for operation in (110, 114):
                words = [code(operation, k, g=6)]
                self.check_run(words, before, {("v", 1): vector(k, [7, 6], 9)}, data=data)
                words = [code(operation, k, q=1, g=6)]
                self.check_run(words, before, {("v", 1): vector(k, [0, 6])}, data=data)
            for operation in (111, 115):
                self.check_run([code(operation, k, g=6)], before, {}, {END - size: as_bytes(k, [8])}, data=data)

    def test_chosen_lanes_in_a_row_ask_for_no_more_than_they_are(self):
        for k in WIDTHS:
            size = k // 8
            before = {("s", 3): END - 2 * size, ("p", 6): 0b10100000, ("v", 1): vector(k, EIGHT, 9)}
            data = {END - 2 * size: as_bytes(k, [5, 6])}
            words = [code(112, k, g=6)]
            self.check_run(words, before, {("v", 1): vector(k, EIGHT[:5] + [5, 17, 6], 9)}, data=data)
            self.check_run([code(113, k, g=6)], before, {}, {END - 2 * size: as_bytes(k, [16, 18])}, data=data)
            before["p", 6] = 0b10100001
            self.check_stop(code(112, k, g=6), before, 4, data)
            self.check_stop(code(113, k, g=6), before, 4, data)

    def test_nothing_is_done_of_the_lanes_before_either(self):
        for k in WIDTHS:
            size = k // 8
            count = 512 // k
            # Every lane but the last is there.
            before = {("s", 3): END - (count - 1) * size, ("v", 1): vector(k, EIGHT, 7)}
            for operation in (110, 111, 112, 113):
                for q in (0, 1):
                    self.check_stop(code(operation, k, q=q), before, 4, {END - 64: [3] * 64})
            before = {("s", 3): END - size, ("v", 1): vector(k, EIGHT, 7), ("v", 2): vector(k, [0] * (count - 1) + [1])}
            for operation in (114, 115):
                for q in (0, 1):
                    self.check_stop(code(operation, k, q=q), before, 4, {END - 64: [3] * 64})

    def test_a_lane_below_the_first_byte(self):
        for k in WIDTHS:
            size = k // 8
            for lane in (minus(1, k), minus(2, k)):
                before = {("s", 3): 0, ("v", 2): vector(k, [0, lane]), ("p", 6): 0b11}
                for operation in (114, 115):
                    self.check_stop(code(operation, k, g=6), before, 4, {0: [3] * 64})
            before = {("s", 3): size, ("v", 2): vector(k, [0, minus(1, k)]), ("p", 6): 0b11}
            words = [code(114, k, q=1, g=6)]
            self.check_run(words, before, {("v", 1): vector(k, [12, 11])}, data={0: as_bytes(k, EIGHT)})

    def test_in_part_below_the_first_byte(self):
        for operation in (114, 115):
            before = {("s", 3): 7, ("v", 2): vector(64, [ALL]), ("p", 6): 1}
            self.check_stop(code(operation, 64, g=6), before, 4, {0: [3] * 64})
        self.check_stop(code(117, 64, z=-1), {("s", 3): 0}, 4)
        self.check_stop(code(118, 64, z=-1), {("s", 3): 0}, 4)

    def test_no_lane_chosen_asks_for_nothing(self):
        for k in WIDTHS:
            above = ALL ^ ((1 << 512 // k) - 1)
            for place in (DATA, END - 1, END, ALL):
                for operation in LANES:
                    for predicate in (0, above):
                        before = {("s", 3): place, ("p", 6): predicate, ("v", 1): vector(k, EIGHT)}
                        self.check_run([code(operation, k, g=6)], before, {})

    def test_no_lane_chosen_with_q_makes_zeros_of_what_is_loaded_alone(self):
        for k in WIDTHS:
            before = {("s", 3): ALL, ("p", 6): 0, ("v", 1): vector(k, EIGHT)}
            for operation in LOADS:
                self.check_run([code(operation, k, q=1, g=6)], before, {("v", 1): [0] * 8})
            for operation in STORES:
                self.check_run([code(operation, k, q=1, g=6)], before, {})

    def test_scalars_ask_whatever_is_chosen(self):
        before = {("s", 3): END, ("p", 6): 0}
        self.check_stop(code(117, 8, g=6), before, 4)
        self.check_stop(code(118, 8, g=6), before, 4)

    def test_bits_of_g_beyond_n_choose_no_lane(self):
        # With lanes of 64 bits the ninth bit is nothing: only lane 7 is asked for.
        before = {("s", 3): END - 64, ("p", 6): 0b110000000}
        words = [code(110, 64, q=1, g=6)]
        self.check_run(words, before, {("v", 1): [0] * 7 + [5]}, data={END - 8: [5]})


class Form(Runs):
    def test_second_byte_and_eighth_bit(self):
        for operation in MEMORY:
            self.check_stop(code(operation, 8) | 8 << 8, {("s", 3): DATA}, 3)
            self.check_stop(code(operation, 8) | 1 << 31, {("s", 3): DATA}, 3)
            # No instruction asks for no bytes: 3, not 4.
            self.check_stop(code(operation, 8) | 1 << 31, {("s", 3): END}, 3)

    def test_memory_leaves_the_flags(self):
        for operation in MEMORY:
            for flags in range(4):
                before = {("s", 3): CODE, "flags": flags, ("p", 6): 0}
                after = {}
                if operation == 117:
                    after = {("s", 1): operation}
                if operation == 118:
                    before["s", 1] = operation
                self.check_run([code(operation, 8, g=6)], before, after)


if __name__ == "__main__":
    unittest.main()
