"""Promise 2: instructions one after another, how a run ends, what is handed over and what is told."""

import contextlib
import io
import unittest

from helper import (ALL, CODE, DONE, MEMORY, MOST_STEPS, NARROWER, WAYS, WIDTHS, Runs, Sealed, as_bytes, ask, ask_run,
                    background, code, handed_run, program, told, told_run, vector)
from lanewise.lanes import run

END = 65536
UNKNOWN = [38, 39, 59, 108, 109, 119, 128, 129] + list(range(141, 256))


class Ends(Runs):
    def test_all_steps_done(self):
        words = [code(139, d=4, z=1), code(139, d=5, z=2), code(139, d=6, z=3)]
        kept = {}
        for steps in range(4):
            self.check_run(words, {}, kept, steps=steps, ended=(steps, 0, CODE + 8 * steps))
            kept["s", 4 + steps] = 1 + steps

    def test_no_steps_look_at_no_instruction(self):
        for place in (0, CODE, 65529, END, ALL):
            self.check_run([code(0)], {}, {}, steps=0, ended=(0, 0, place), place=place)
            self.check_run([code(38)], {}, {}, steps=0, ended=(0, 0, place), place=place)

    def test_what_would_stop_the_next_step_is_not_looked_at(self):
        for word in (code(0), code(38), code(117, 8, b=3)):
            words = [code(139, d=4, z=1), word]
            self.check_run(words, {("s", 3): END}, {("s", 4): 1}, steps=1, ended=(1, 0, CODE + 8))

    def test_stop_one(self):
        for k in WIDTHS:
            for q in (0, 1):
                for g in (0, 7):
                    self.check_stop(code(0, k, q=q, d=7, a=9, b=15, g=g, z=-9), {}, 1)
        self.check_stop(0, {"flags": 3}, 1)

    def test_stop_one_behind_steps(self):
        words = [code(139, d=4, z=1), code(0), code(139, d=5, z=2)]
        self.check_run(words, {}, {("s", 4): 1}, ended=(1, 1, CODE + 8))

    def test_bytes_of_zero_stop(self):
        self.check_run([], {}, {}, steps=3, ended=(0, 1, 0), place=0)
        self.check_run([], {}, {}, steps=3, ended=(0, 1, 65528), place=65528)

    def test_operations_that_the_document_does_not_have(self):
        for operation in UNKNOWN:
            for k in WIDTHS:
                self.check_stop(code(operation, k, z=5), {}, 3)

    def test_second_byte_above_seven(self):
        for second in range(256):
            done = second <= 7
            ended = (1, 0, CODE + 8) if done else (0, 3, CODE)
            self.check_run([139 | second << 8 | 4 << 16], {}, {("s", 4): 0} if done else {}, ended=ended)
            if not done:
                self.check_stop(second << 8, {}, 3)

    def test_eighth_bit_of_the_byte_of_g(self):
        for operation in [0] + DONE + list(MEMORY) + list(WAYS):
            k = NARROWER.get(operation, (32,))[0]
            self.check_stop(code(operation, k) | 1 << 31, {("s", 3): 0}, 3)

    def test_other_widths_than_told(self):
        for operation, widths in NARROWER.items():
            for k in WIDTHS:
                if k not in widths:
                    self.check_stop(code(operation, k), {}, 3)
                    self.check_stop(code(operation, k, q=1, g=3, z=9), {}, 3)

    def test_stop_three_behind_steps(self):
        words = [code(139, d=4, z=1), code(62, 32), code(139, d=5, z=2)]
        self.check_run(words, {}, {("s", 4): 1}, ended=(1, 3, CODE + 8))

    def test_stop_four_of_memory_behind_steps(self):
        words = [code(139, d=4, z=END - 1), code(118, 8, d=5, b=4), code(118, 16, d=5, b=4), code(139, d=5, z=2)]
        self.check_run(words, {("s", 5): 0x77}, {("s", 4): END - 1}, {END - 1: [0x77]}, steps=9,
                       ended=(2, 4, CODE + 16))

    def test_the_instruction_itself_is_not_there(self):
        for place in (65529, 65530, 65535, END, END + 1, 1 << 32, (1 << 32) + CODE, 1 << 63, ALL - 8, ALL - 7, ALL):
            self.check_run([code(139, d=4, z=1)], {}, {}, {}, steps=1, ended=(0, 4, place), place=place)
        # Were the bytes that are there looked at, this would be no instruction.
        self.check_run([], {}, {}, data={65529: [255] * 7}, steps=1, ended=(0, 4, 65529), place=65529)

    def test_behind_the_last_instruction(self):
        row = program([code(139, d=4, z=1), code(139, d=5, z=2)])
        after = {("s", 4): 1, ("s", 5): 2}
        self.check_run([], {}, after, data={65520: row}, steps=2, ended=(2, 0, END), place=65520)
        self.check_run([], {}, after, data={65520: row}, steps=3, ended=(2, 4, END), place=65520)
        self.check_run([], {}, after, data={65520: row}, steps=MOST_STEPS, ended=(2, 4, END), place=65520)

    def test_in_part_behind_the_last_instruction(self):
        row = program([code(139, d=4, z=1)]) + [139]
        self.check_run([], {}, {("s", 4): 1}, data={65527: row}, steps=2, ended=(1, 4, 65535), place=65527)

    def test_the_greatest_number_of_steps_with_a_stop_on_the_way(self):
        self.check_run([code(0)], {}, {}, steps=MOST_STEPS, ended=(0, 1, CODE))
        self.check_run([code(139, d=4, z=1)], {}, {("s", 4): 1}, steps=MOST_STEPS, ended=(1, 1, CODE + 8))
        self.check_run([code(38)], {}, {}, steps=MOST_STEPS, ended=(0, 3, CODE))
        self.check_run([code(117, 8)], {("s", 3): ALL}, {}, steps=MOST_STEPS, ended=(0, 4, CODE))


class OneAfterAnother(Runs):
    def test_scalars_and_vectors(self):
        words = [
            code(139, d=4, z=40),
            code(130, d=4, a=4, z=2),
            code(35, 16, d=7, b=4),
            code(1, 16, d=7, a=7, b=7),
        ]
        self.check_run(words, {}, {("s", 4): 42, ("v", 7): vector(16, [], 84)})

    def test_predicates_choose_for_those_behind(self):
        words = [
            code(81, 64, d=5, a=2, b=3, z=1),
            code(35, 64, q=1, d=1, b=4, g=5),
        ]
        before = {("v", 2): vector(64, [1, 5, 2, 7], 9), ("v", 3): vector(64, [5, 5, 5, 5], 1), ("s", 4): 77}
        self.check_run(words, before, {("p", 5): 0b101, ("v", 1): [77, 0, 77, 0, 0, 0, 0, 0]})

    def test_flags_choose_ways_behind(self):
        words = [
            code(140, a=4, b=5),
            code(123, z=8),
            code(139, d=6, z=1),
            code(139, d=7, z=2),
        ]
        self.check_run(words, {("s", 4): 3, ("s", 5): 4}, {"flags": 2, ("s", 7): 2}, steps=3,
                       ended=(3, 0, CODE + 32))
        self.check_run(words, {("s", 4): 4, ("s", 5): 4}, {"flags": 1, ("s", 6): 1, ("s", 7): 2}, steps=4)

    def test_flags_stay_until_they_are_set(self):
        words = [code(140, a=4, b=4), code(1), code(130, d=5, a=5), code(121, z=0)]
        self.check_run(words, {("v", 2): [0] * 8, ("v", 3): [0] * 8}, {"flags": 1, ("v", 1): [0] * 8})

    def test_what_is_stored_is_loaded_later(self):
        words = [
            code(111, 8, d=2, b=4),
            code(118, 32, d=5, b=4, z=4),
            code(110, 8, d=1, b=4),
            code(117, 64, d=6, b=4, z=2),
        ]
        row = list(range(1, 65))
        before = {("v", 2): vector(8, row), ("s", 4): 0x100, ("s", 5): 0xAAFFEEDDCC}
        after = row[:4] + [0xCC, 0xDD, 0xEE, 0xFF] + row[8:]
        self.check_run(words, before, {("v", 1): vector(8, after), ("s", 6): 0x0A09FFEEDDCC0403}, {0x100: after})

    def test_predicate_zero_stays_all_ones(self):
        words = [code(101, 64, d=0, a=4), code(100, 64, d=5, a=0), code(29, 8, d=1, a=2, b=3, g=0)]
        before = {("p", 0): 0, ("s", 4): 5, ("v", 2): vector(8, [], 3), ("v", 3): vector(8, [], 1)}
        self.check_run(words, before, {("s", 5): ALL, ("v", 1): vector(8, [], 3)})

    def test_an_instruction_that_is_written_and_then_done(self):
        # The scalar holds 139 with d 5 and z 77, laid over the 0 behind.
        words = [code(118, 64, d=4, b=3), code(0)]
        before = {("s", 3): CODE + 8, ("s", 4): code(139, d=5, z=77)}
        self.check_run(words, before, {("s", 5): 77}, {CODE + 8: program([code(139, d=5, z=77)])})

    def test_an_instruction_written_in_part(self):
        # Only z's lowest byte is written: 5 becomes 6.
        words = [code(118, 8, d=4, b=3), code(139, d=5, z=5)]
        before = {("s", 3): CODE + 12, ("s", 4): 6}
        self.check_run(words, before, {("s", 5): 6}, {CODE + 12: [6]})

    def test_an_instruction_that_writes_over_itself(self):
        words = [code(118, 8, d=4, b=3), code(120, z=-16)]
        before = {("s", 3): CODE, ("s", 4): 0}
        self.check_run(words, before, {}, {CODE: [0]}, steps=9, ended=(2, 1, CODE))

    def test_instructions_written_by_a_vector(self):
        written = [code(139, d=5, z=1), code(139, d=6, z=2), code(130, d=5, a=5, z=3), code(0), 0, 0, 0, 0]
        words = [code(111, 64, d=2, b=3)]
        before = {("v", 2): written, ("s", 3): CODE + 8}
        self.check_run(words, before, {("s", 5): 4, ("s", 6): 2}, {CODE + 8: program(written)}, steps=99,
                       ended=(4, 1, CODE + 32))

    def test_what_stops_it_leaves_what_was_done_before(self):
        words = [code(118, 8, d=4, b=3), code(140, a=4, b=4), code(95, 8, d=5, a=0), code(38)]
        before = {("s", 3): 0x100, ("s", 4): 9}
        self.check_run(words, before, {"flags": 1, ("p", 5): 0}, {0x100: [9]}, steps=50, ended=(3, 3, CODE + 24))


class Loops(Runs):
    def test_a_sum(self):
        words = [code(131, d=4, a=4, b=5), code(125, d=5, z=-16)]
        before = {("s", 4): 0, ("s", 5): 3000}
        self.check_run(words, before, {("s", 4): 4501500, ("s", 5): 0}, steps=MOST_STEPS, ended=(6000, 1, CODE + 16))

    def test_broken_off(self):
        words = [code(131, d=4, a=4, b=5), code(125, d=5, z=-16)]
        before = {("s", 4): 0, ("s", 5): 3000}
        self.check_run(words, before, {("s", 4): 3000 + 2999 + 2998, ("s", 5): 2998}, steps=5,
                       ended=(5, 0, CODE + 8))

    def test_bytes_filled(self):
        # 0x400 bytes from 0 on, 64 at a time.
        words = [
            code(111, 8, d=2, b=4),
            code(130, d=4, a=4, z=64),
            code(125, d=5, z=-24),
        ]
        before = {("s", 4): 0, ("s", 5): 16, ("v", 2): vector(8, [], 7)}
        self.check_run(words, before, {("s", 4): 0x400, ("s", 5): 0}, {0: [7] * 0x400}, steps=MOST_STEPS,
                       ended=(48, 1, CODE + 24))

    def test_until_memory_ends(self):
        # 118 puts bytes until the place is outside; the one that asks for it isn't done.
        words = [code(118, 8, d=5, b=4), code(130, d=4, a=4, z=1), code(120, z=-24)]
        before = {("s", 4): END - 2000, ("s", 5): 7}
        self.check_run(words, before, {("s", 4): END}, {END - 2000: [7] * 2000}, steps=MOST_STEPS,
                       ended=(6000, 4, CODE))

    def test_a_row_of_instructions_as_long_as_memory_lets_it_be(self):
        words = [code(130, d=4, a=4, z=1)] * ((END - CODE) // 8)
        self.check_run(words, {("s", 4): 0}, {("s", 4): 4096}, steps=MOST_STEPS, ended=(4096, 4, END))


class AsDone(Runs):
    """Every operation that do does, done by run too."""

    def check_same(self, word, changes):
        expected = told(ask(word, changes))
        expected["ended"] = (1, 0, CODE + 8)
        expected["seen"] = program([word])
        self.assertEqual(told_run(ask_run(1, {CODE: program([word])}, changes, looked=(CODE, 8))), expected, hex(word))

    def test_every_operation_at_its_widths(self):
        for operation in DONE:
            for k in NARROWER.get(operation, WIDTHS):
                for q, g, z in ((0, 0, 0), (0, 3, 7), (1, 5, -3)):
                    self.check_same(code(operation, k, q=q, g=g, z=z), {"flags": 2})
                    self.check_same(code(operation, k, q=q, d=9, a=12, b=12, g=g, z=z), {"flags": 0xFFFFFFFD})

    def test_what_do_refuses_stops_or_is_memorys_or_a_way(self):
        for operation in range(256):
            for k in WIDTHS:
                word = code(operation, k)
                done = ask(word) != [3]
                ended = told_run(ask_run(1, {CODE: program([word])}, {("s", 3): 0, ("v", 2): [0] * 8}))["ended"]
                runs = done or operation in MEMORY or operation in WAYS
                self.assertEqual(ended[:2], (1, 0) if runs else (0, 1 if operation == 0 else 3), (operation, k))

    def test_one_by_one_or_all_at_once(self):
        words = [code(operation, NARROWER.get(operation, (32,))[0], q=operation % 2, d=operation % 16,
                      a=operation * 3 % 16, b=operation * 7 % 16, g=operation % 8, z=operation - 60)
                 for operation in DONE]
        state = background()
        for word in words:
            state = told(ask(word, state))
        together = told_run(ask_run(len(words), {CODE: program(words)}))
        self.assertEqual(together["ended"], (len(words), 0, CODE + 8 * len(words)))
        for key in state:
            self.assertEqual(together[key], state[key], key)


class HandedOver(Runs):
    def seen(self, memory, looked):
        state = background()
        given = handed_run(0, {0: []}, state)
        return told_run(run(*given[:5], memory, looked))["seen"]

    def test_the_place_alone(self):
        for place in (0, 1, 1000, 65535):
            self.assertEqual(self.seen([place], [0, END]), [0] * END)

    def test_bytes_from_zero_on(self):
        self.assertEqual(self.seen([0, 1, 2, 3], [0, 5]), [1, 2, 3, 0, 0])
        self.assertEqual(self.seen([0, 1, 2, 3], [0, END]), [1, 2, 3] + [0] * (END - 3))

    def test_bytes_up_to_the_end(self):
        self.assertEqual(self.seen([65533, 1, 2, 3], [65531, 5]), [0, 0, 1, 2, 3])
        self.assertEqual(self.seen([65535, 255], [65535, 1]), [255])
        self.assertEqual(self.seen([65533, 1, 2, 3], [0, END]), [0] * 65533 + [1, 2, 3])

    def test_as_many_bytes_as_can_be_handed_over(self):
        row = [1 + number % 255 for number in range(61679)]
        self.assertEqual(self.seen([0] + row, [0, END]), row + [0] * 3857)
        self.assertEqual(self.seen([3857] + row, [0, END]), [0] * 3857 + row)
        self.assertEqual(self.seen([100] + row, [0, END]), [0] * 100 + row + [0] * 3757)

    def test_bytes_besides_are_zero(self):
        self.assertEqual(self.seen([500, 9, 8], [498, 6]), [0, 0, 9, 8, 0, 0])

    def test_looked_at(self):
        memory = [500, 9, 8, 7, 255]
        for place, row in ((500, [9]), (503, [255]), (501, [8, 7]), (504, [0]), (0, [0]), (65535, [0])):
            self.assertEqual(self.seen(memory, [place, len(row)]), row)
        for place in (0, 500, 502, 65535, END):
            self.assertEqual(self.seen(memory, [place, 0]), [])

    def test_looked_at_after_it_was_written(self):
        words = [code(118, 32, d=4, b=3)]
        before = {("s", 3): 0x200, ("s", 4): 0x04030201}
        for place, row in ((0x200, [1, 2, 3, 4]), (0x1FF, [0, 1]), (0x203, [4, 0]), (0x202, [3])):
            answer = ask_run(1, {CODE: program(words)}, before, looked=(place, len(row)))
            self.assertEqual(told_run(answer)["seen"], row)

    def test_looked_at_where_the_end_was_written(self):
        words = [code(118, 32, d=4, b=3)]
        before = {("s", 3): END - 4, ("s", 4): 0x04030201}
        answer = ask_run(1, {CODE: program(words)}, before, looked=(END - 1, 1))
        self.assertEqual(told_run(answer)["seen"], [4])

    def test_looked_at_where_instructions_lie(self):
        answer = ask_run(1, {CODE: program([code(139, d=4, z=1)])}, looked=(CODE, 8))
        self.assertEqual(told_run(answer)["seen"], [139, 0, 0x24, 3, 1, 0, 0, 0])

    def test_instructions_anywhere(self):
        for place in (0, 1, 7, 0x1234, 65519, 65520):
            pieces = {place: program([code(139, d=4, z=-1), code(130, d=5, a=4, z=2)])}
            state = told_run(ask_run(2, pieces, place=place))
            self.assertEqual((state["s", 4], state["s", 5], state["ended"]), (ALL, 1, (2, 0, place + 16)))


class Told(Runs):
    def test_the_form_of_an_answer(self):
        vectors = list(range(1000, 1128))
        memory = [16] + as_bytes(64, [code(131, d=15, a=0, b=1)])
        answer = run(2, vectors, [0, 1, 2, 3, 4, 5, 6, 7], list(range(16)), [16, 6], memory, [15, 4])
        expected = ([1, 1, 1, 128] + vectors + [8, ALL, 1, 2, 3, 4, 5, 6, 7, 16] + list(range(15)) + [1, 2, 24, 2]
                    + [4, 0, 131, 0, 15])
        self.assertEqual(answer, expected)

    def test_the_form_with_nothing_done_and_nothing_looked_at(self):
        answer = run(0, [ALL] * 128, [0] * 8, [ALL] * 16, [ALL, 0xFFFFFFFF], [0], [END, 0])
        expected = [0, 1, 0, 128] + [ALL] * 128 + [8, ALL] + [0] * 7 + [16] + [ALL] * 16 + [2, ALL, 3, 0]
        self.assertEqual(answer, expected)

    def test_predicate_zero_is_told_as_all_ones(self):
        for word in (0, 1, 1 << 63, ALL):
            for steps, why in ((0, 0), (1, 1)):
                self.check_run([code(0)], {("p", 0): word}, {("p", 0): ALL}, steps=steps, ended=(0, why, CODE))

    def test_predicate_zero_is_taken_as_all_ones(self):
        for word in (0, 1, 1 << 63, ALL):
            for q in (0, 1):
                before = {("p", 0): word, ("s", 3): 0}
                words = [code(110, 8, q=q)]
                self.check_run(words, before, {("v", 1): vector(8, [], 5)}, data={0: [5] * 64})

    def test_bits_of_the_flags_beyond_z_and_c_become_zero(self):
        for flags in (0, 1, 2, 3, 4, 0xFFFFFFFC, 0xFFFFFFFD, 0xFFFFFFFE, 0xFFFFFFFF):
            for steps, why in ((0, 0), (1, 1)):
                self.check_run([code(0)], {"flags": flags}, {"flags": flags % 4}, steps=steps, ended=(0, why, CODE))
            self.check_run([code(130, a=1)], {"flags": flags}, {"flags": flags % 4})

    def test_whole_numbers_alone(self):
        for operation in range(256):
            k = NARROWER.get(operation, (32,))[0]
            answer = ask_run(3, {CODE: program([code(operation, k, z=5)])}, {("s", 3): 0, "flags": 3}, looked=(0, 99))
            self.assertIs(type(answer), list)
            self.assertEqual({type(number) for number in answer}, {int}, operation)
            self.assertTrue(all(0 <= number <= ALL for number in answer), operation)


class Kept(Runs):
    """What is handed in stays as it is, and nothing is kept for the next time."""

    def given(self, operation):
        state = background()
        state["s", 3] = 0x100
        state["v", 2] = vector(32, list(range(16)))
        word = code(operation, NARROWER.get(operation, (32,))[0], g=2, z=8)
        return handed_run(2, {CODE: program([word])}, state, looked=(0, 0x300))

    def test_what_is_handed_in_is_not_changed(self):
        for operation in range(256):
            given = self.given(operation)
            lists = [list(part) for part in given[1:]]
            answer = run(*given)
            self.assertEqual(given[1:], lists, operation)
            self.assertEqual(run(*given), answer, operation)

    def test_nor_for_a_while(self):
        for operation in range(256):
            given = self.given(operation)
            answer = run(given[0], *[Sealed(part) for part in given[1:]])
            self.assertEqual(answer, run(*given), operation)

    def test_what_was_written_is_gone_the_next_time(self):
        words = program([code(118, 64, d=4, b=3)])
        before = {("s", 3): 0x100, ("s", 4): ALL}
        self.assertEqual(told_run(ask_run(1, {CODE: words}, before, looked=(0x100, 8)))["seen"], [255] * 8)
        self.assertEqual(told_run(ask_run(0, {CODE: words}, before, looked=(0x100, 8)))["seen"], [0] * 8)
        self.assertEqual(told_run(ask_run(1, {CODE: words}, before, looked=(0x100, 8)))["seen"], [255] * 8)

    def test_nothing_is_printed(self):
        heard = io.StringIO()
        with contextlib.redirect_stdout(heard), contextlib.redirect_stderr(heard):
            for operation in range(256):
                run(*self.given(operation))
        self.assertEqual(heard.getvalue(), "")


if __name__ == "__main__":
    unittest.main()
