"""Promise 1: how instructions are read, which are refused, how a vector is put, what an answer looks like."""

import unittest

from helper import (ALL, DONE, MEMORY, NARROWER, REFUSED, WAYS, WIDTHS, Sealed, Steps, ask, background, code, cycled,
                    handed, told, vector)
from lanewise.lanes import do


class Refusals(Steps):
    def test_every_operation_is_done_at_its_widths_and_refused_at_others(self):
        for operation in range(256):
            widths = NARROWER.get(operation, WIDTHS) if operation in DONE else ()
            self.check_widths(operation, widths)

    def test_zero_memory_and_ways_are_refused(self):
        self.check_refused(0)
        for operation in list(MEMORY) + list(WAYS):
            for k in WIDTHS:
                self.check_refused(code(operation, k))
                self.check_refused(code(operation, k, q=1))

    def test_second_byte_above_seven_is_refused(self):
        for second in range(256):
            answer = ask(1 | second << 8)
            self.assertEqual(answer == REFUSED, second > 7, second)

    def test_eighth_bit_of_the_byte_of_g_is_refused(self):
        for operation in DONE:
            self.check_refused(code(operation, 32) | 1 << 31)
        self.check_refused(code(1, 8, g=5, z=-1) | 1 << 31)

    def test_a_refusal_is_three_alone(self):
        self.assertEqual(do(0, [0] * 128, [0] * 8, [0] * 16, 0), [3])
        self.assertEqual(do(ALL, [ALL] * 128, [ALL] * 8, [ALL] * 16, 0xFFFFFFFF), [3])

    def test_numbers_that_the_document_does_not_have(self):
        for operation in [38, 39, 59, 108, 109, 119, 128, 129] + list(range(141, 256)):
            for k in WIDTHS:
                self.check_refused(code(operation, k))


class Fields(Steps):
    def test_each_byte_stands_at_its_place(self):
        # 131 adds scalars: operation 0x83, w 2 with q, d 5 and a 9, b 12 and g 3, z -2.
        word = int.from_bytes(bytes([0x83, 0x06, 0x95, 0x3C, 0xFE, 0xFF, 0xFF, 0xFF]), "little")
        self.check(word, {("s", 9): 40, ("s", 12): 2}, {("s", 5): 42})

    def test_every_vector_can_be_d_a_and_b(self):
        ones = vector(8, [], 1)
        for number in range(16):
            self.check(code(1, d=number, a=number, b=number), {("v", number): ones}, {("v", number): vector(8, [], 2)})
            other = (number + 7) % 16
            third = (number + 3) % 16
            self.check(code(2, d=number, a=other, b=third),
                       {("v", other): vector(8, [], 9), ("v", third): vector(8, [], 4)},
                       {("v", number): vector(8, [], 5)})

    def test_z_has_a_sign_and_32_bits(self):
        for z, word in ((0, 0), (1, 1), (0x7FFFFFFF, 0x7FFFFFFF), (-1, ALL), (-0x80000000, 0xFFFFFFFF80000000)):
            self.check(code(139, d=4, z=z), {}, {("s", 4): word})

    def test_m_is_z_or_zero_below_zero(self):
        lanes = vector(64, [10, 11, 12, 13, 14, 15, 16, 17])
        for z, found in ((0, 10), (7, 17), (8, 10), (0x7FFFFFFF, 17), (-1, 10), (-2, 10), (-0x80000000, 10)):
            self.check(code(106, 64, d=4, z=z), {("v", 2): lanes}, {("s", 4): found})

    def test_fields_that_are_not_named_are_nothing(self):
        for q in (0, 1):
            for g in range(8):
                for k in WIDTHS:
                    self.check(code(131, k, q=q, d=1, g=g, z=-7 if q else 99), {("s", 2): 1, ("s", 3): 2}, {("s", 1): 3})
                    self.check(code(139, k, q=q, d=1, a=g, b=g + 8, g=g, z=5), {}, {("s", 1): 5})
        self.check(code(28, b=15, z=77), {("v", 2): vector(8, [1])}, {("v", 1): vector(8, [255])})
        self.check(code(1, z=-1), {("v", 2): vector(8, [1]), ("v", 3): vector(8, [2])}, {("v", 1): vector(8, [3])})


class Putting(Steps):
    def test_lanes_without_a_bit_stay(self):
        for k in WIDTHS:
            before = {("v", 1): vector(k, [], 9), ("v", 2): vector(k, [], 3), ("v", 3): vector(k, [], 4),
                      ("p", 6): 0b10110010}
            self.check(code(1, k, g=6), before, {("v", 1): vector(k, [9, 7, 9, 9, 7, 7, 9, 7], 9)})

    def test_lanes_without_a_bit_become_zero_with_q(self):
        for k in WIDTHS:
            before = {("v", 1): vector(k, [], 9), ("v", 2): vector(k, [], 3), ("v", 3): vector(k, [], 4),
                      ("p", 6): 0b10110010}
            self.check(code(1, k, q=1, g=6), before, {("v", 1): vector(k, [0, 7, 0, 0, 7, 7, 0, 7])})

    def test_only_the_lowest_n_bits_count(self):
        for k in WIDTHS:
            lanes = 512 // k
            above = ALL ^ ((1 << lanes) - 1)
            before = {("v", 2): vector(k, [], 3), ("v", 3): vector(k, [], 4), ("p", 1): above | 1 << (lanes - 1)}
            after = vector(k, [0] * (lanes - 1) + [7])
            self.check(code(1, k, q=1, g=1), before, {("v", 1): after})

    def test_each_predicate_can_choose(self):
        for g in range(1, 8):
            before = {("v", 1): vector(64, [], 1), ("v", 2): vector(64, [], 5), ("v", 3): vector(64, [], 5),
                      ("p", g): 1 << g}
            after = [1] * 8
            after[g] = 10
            self.check(code(1, 64, g=g), before, {("v", 1): after})

    def test_predicate_zero_is_all_ones_whatever_is_handed_in(self):
        for word in (0, 1, 0x8000000000000000, ALL):
            for q in (0, 1):
                before = {("p", 0): word, ("v", 2): vector(8, [], 3), ("v", 3): vector(8, [], 4)}
                self.check(code(1, q=q), before, {("v", 1): vector(8, [], 7)})
        self.check(code(100, 64, d=2, a=0), {("p", 0): 0}, {("s", 2): ALL})

    def test_what_is_put_in_predicate_zero_is_dropped(self):
        for d in (0, 8):
            self.check(code(90, 64, d=d, a=2, b=3), {("p", 2): 0, ("p", 0): 5}, {})
            self.check(code(101, 64, d=d, a=2), {("s", 2): 0}, {})
            self.check(code(81, 8, d=d), {}, {})
            self.check(code(88, d=d), {("v", 2): vector(8, [65]), ("v", 3): vector(8, [65])}, {"flags": 3})

    def test_d_alike_with_a_or_b(self):
        low = list(range(8))
        self.check(code(40, 64, d=2), {("v", 2): [10, 11, 12, 13, 14, 15, 16, 17], ("v", 3): vector(64, low[::-1])},
                   {("v", 2): [17, 16, 15, 14, 13, 12, 11, 10]})
        self.check(code(40, 64, d=3), {("v", 2): [10, 11, 12, 13, 14, 15, 16, 17], ("v", 3): vector(64, low[::-1])},
                   {("v", 3): [17, 16, 15, 14, 13, 12, 11, 10]})
        self.check(code(43, 64, d=3, z=3), {("v", 2): [10, 11, 12, 13, 14, 15, 16, 17], ("v", 3): low},
                   {("v", 3): [3, 4, 5, 6, 7, 10, 11, 12]})
        self.check(code(48, 64, d=2, g=4), {("v", 2): [10, 11, 12, 13, 14, 15, 16, 17], ("p", 4): 0b10101010},
                   {("v", 2): [11, 13, 15, 17, 14, 15, 16, 17]})
        self.check(code(49, 64, d=2, g=4), {("v", 2): [10, 11, 12, 13, 14, 15, 16, 17], ("p", 4): 0b10101010},
                   {("v", 2): [10, 10, 12, 11, 14, 12, 16, 13]})
        self.check(code(132, d=4, a=4, b=4), {("s", 4): 77}, {("s", 4): 0})


class Answers(Steps):
    def test_the_form_of_an_answer(self):
        vectors = list(range(1000, 1128))
        answer = do(code(131, d=15, a=0, b=1), vectors, [0, 1, 2, 3, 4, 5, 6, 7], list(range(16)), 2)
        expected = [0, 128] + vectors + [8, ALL, 1, 2, 3, 4, 5, 6, 7, 16] + list(range(15)) + [1, 1, 2]
        self.assertEqual(answer, expected)

    def test_an_answer_holds_whole_numbers_alone(self):
        for operation in DONE:
            answer = ask(code(operation, 16 if operation == 62 else 32), {"flags": 3})
            self.assertIs(type(answer), list)
            self.assertEqual({type(number) for number in answer}, {int}, operation)
            self.assertTrue(all(0 <= number <= ALL for number in answer), operation)

    def test_what_is_handed_in_is_not_changed(self):
        for operation in range(256):
            for q in (0, 1):
                instruction = code(operation, 16 if operation == 62 else 32, q=q, g=2, z=5)
                given = handed(instruction, background())
                lists = [list(part) for part in given[1:4]]
                answer = do(*given)
                self.assertEqual(given[1:4], lists, operation)
                self.assertEqual(answer, do(*given), operation)
                for part in given[1:4]:
                    self.assertIsNot(answer, part)

    def test_nothing_is_written_to_what_is_handed_in_for_a_while_either(self):
        for operation in DONE:
            given = handed(code(operation, 16 if operation == 62 else 32, g=2, z=5), background())
            told(do(given[0], Sealed(given[1]), Sealed(given[2]), Sealed(given[3]), given[4]))

    def test_nothing_is_kept_from_one_time_to_the_next(self):
        first = ask(code(81, 8, d=3))
        ask(code(140), {"flags": 3})
        ask(code(95, 64, d=3, a=0))
        self.assertEqual(ask(code(81, 8, d=3)), first)

    def test_nothing_is_printed(self):
        import contextlib
        import io
        heard = io.StringIO()
        with contextlib.redirect_stdout(heard), contextlib.redirect_stderr(heard):
            ask(code(1))
            ask(0)
        self.assertEqual(heard.getvalue(), "")


class Flags(Steps):
    SETTING = (88, 89, 102, 103, 140)

    def test_bits_beyond_z_and_c_become_zero(self):
        for flags in (0, 1, 2, 3, 4, 5, 0xFFFFFFFC, 0xFFFFFFFD, 0xFFFFFFFE, 0xFFFFFFFF):
            self.check(code(130, a=1, z=0), {"flags": flags}, {"flags": flags % 4})

    def test_instructions_that_say_nothing_of_flags_leave_them(self):
        for operation in DONE:
            if operation in self.SETTING:
                continue
            for flags in range(4):
                answer = ask(code(operation, 16 if operation == 62 else 32, z=3), {"flags": flags})
                self.assertEqual(answer[-2:], [1, flags], operation)

    def test_instructions_of_flags_set_both_anew(self):
        for flags in (0, 1, 2, 3, 0xFFFFFFFF):
            self.check(code(140), {"flags": flags, ("s", 2): 5, ("s", 3): 5}, {"flags": 1})
            self.check(code(140), {"flags": flags, ("s", 2): 4, ("s", 3): 5}, {"flags": 2})
            self.check(code(140), {"flags": flags, ("s", 2): 6, ("s", 3): 5}, {"flags": 0})


class Whole(Steps):
    def test_cycled_lanes_reach_the_last(self):
        for k in WIDTHS:
            self.check(code(1, k), {("v", 2): cycled(k, [1, 2]), ("v", 3): cycled(k, [10, 20])},
                       {("v", 1): cycled(k, [11, 22])})


if __name__ == "__main__":
    unittest.main()
