"""Promise 1: texts (88, 89)."""

import unittest

from helper import ALL, WIDTHS, Steps, code, vector

AMONG, BETWEEN, ALIKE, STANDING = range(4)
Z, C = 1, 2


def filled(text, behind=0x61):
    """The text's bytes, a 0 if it is shorter than 16, and others behind it that must not count."""
    row = list(text.encode("latin-1"))
    if len(row) < 16:
        row.append(0)
    return vector(8, row, behind)


class Texts(Steps):
    def check_text(self, way, a, b, word, flags):
        """Both by their first 0 and by their length, whatever w, q and g are."""
        rows = {("v", 2): filled(a), ("v", 3): filled(b), ("p", 6): 0}
        lengths = {("s", 0): len(a), ("s", 1): len(b)}
        lengths.update(rows)
        for k in WIDTHS:
            for q in (0, 1):
                for z in (way, way + 4, way + 0x7FFFFFFC):
                    after = {("p", 5): word, "flags": flags}
                    self.check(code(88, k, q=q, d=5, g=6 * q, z=z), rows, after)
                    self.check(code(89, k, q=q, d=13, g=6 * q, z=z), lengths, after)

    def test_bytes_of_b_among_those_of_a(self):
        self.check_text(AMONG, "aeiou", "lane by lane", 0b101000001010, Z | C)
        self.check_text(AMONG, "aeiou", "sixteen letters!", 0b0001001000110010, C)
        self.check_text(AMONG, "xyz", "lane", 0, Z)
        self.check_text(AMONG, "", "lane", 0, Z)
        self.check_text(AMONG, "lane", "", 0, Z)
        self.check_text(AMONG, "", "", 0, Z)
        self.check_text(AMONG, "0123456789abcdef", "f0g1", 0b1011, Z | C)
        self.check_text(AMONG, "a", "aaaaaaaaaaaaaaaa", 0xFFFF, C)

    def test_bytes_of_b_between_two_of_a(self):
        self.check_text(BETWEEN, "azAZ", "aB-zZ`{@[", 0b000011011, Z | C)
        self.check_text(BETWEEN, "az", "ABCDEFGHIJKLMNOP", 0, 0)
        self.check_text(BETWEEN, "za", "lane", 0, Z)
        self.check_text(BETWEEN, "mm", "lmn", 0b010, Z | C)
        self.check_text(BETWEEN, "09a", "5b0a", 0b0101, Z | C)
        self.check_text(BETWEEN, "a", "abc", 0, Z)
        self.check_text(BETWEEN, "", "abc", 0, Z)
        self.check_text(BETWEEN, "\x01\xff", "\x01\x7f\x80\xff", 0b1111, Z | C)
        self.check_text(BETWEEN, "\x80\xff", "\x01\x7f\x80\xff", 0b1100, Z | C)
        self.check_text(BETWEEN, "aabbccddeeffgghh", "0h1a", 0b1010, Z | C)

    def test_bytes_alike_at_their_place(self):
        self.check_text(ALIKE, "lane", "line", 0b1111111111111101, Z | C)
        self.check_text(ALIKE, "lane", "lanes", 0b1111111111101111, Z | C)
        self.check_text(ALIKE, "lanes", "lane", 0b1111111111101111, Z | C)
        self.check_text(ALIKE, "", "", 0xFFFF, Z | C)
        self.check_text(ALIKE, "", "abc", 0b1111111111111000, Z | C)
        self.check_text(ALIKE, "0123456789abcdef", "0123456789abcdef", 0xFFFF, C)
        self.check_text(ALIKE, "0123456789abcdef", "0123456789abcde", 0x7FFF, Z | C)
        self.check_text(ALIKE, "0123456789abcde", "0123456789abcdef", 0x7FFF, C)
        self.check_text(ALIKE, "aaaaaaaaaaaaaaaa", "bbbbbbbbbbbbbbbb", 0, 0)

    def test_where_a_stands_in_b(self):
        self.check_text(STANDING, "an", "banana", 0b001010, Z | C)
        self.check_text(STANDING, "ana", "banana", 0b001010, Z | C)
        self.check_text(STANDING, "a", "banana", 0b101010, Z | C)
        self.check_text(STANDING, "nab", "banana", 0, Z)
        self.check_text(STANDING, "banana", "banana", 1, Z | C)
        self.check_text(STANDING, "bananas", "banana", 0, Z)
        self.check_text(STANDING, "a", "", 0, Z)

    def test_where_a_stands_as_far_as_the_bytes_go(self):
        self.check_text(STANDING, "ab", "ababababababababa"[:16], 0b0101010101010101, C)
        self.check_text(STANDING, "ba", "abababababababab", 0b1010101010101010, C)
        self.check_text(STANDING, "abc", "0123456789abcdab", 0b0100010000000000, C)
        self.check_text(STANDING, "bc", "0123456789012a.b", 0b1000000000000000, C)
        self.check_text(STANDING, "0123456789abcdef", "0123456789abcdef", 1, C)
        self.check_text(STANDING, "0123456789abcdef", "0123456789abcde", 0, Z)
        self.check_text(STANDING, "f123456789abcdef", "0123456789abcdef", 0x8000, C)
        self.check_text(STANDING, "bc", "012345678901a.b", 0, Z)

    def test_an_empty_text_stands_at_each_place_though_b_has_ended(self):
        self.check_text(STANDING, "", "", 0xFFFF, Z | C)
        self.check_text(STANDING, "", "a", 0xFFFF, Z | C)
        self.check_text(STANDING, "", "lane", 0xFFFF, Z | C)
        self.check_text(STANDING, "", "0123456789abcde", 0xFFFF, Z | C)
        self.check_text(STANDING, "", "0123456789abcdef", 0xFFFF, C)

    def test_a_text_that_is_not_empty_stands_nowhere_past_the_end(self):
        self.check_text(STANDING, "a", "0123456789abcde", 0b10000000000, Z | C)
        self.check_text(STANDING, "ef", "0123456789abcde", 0, Z)
        self.check_text(STANDING, "lanelanelanelane", "lane", 0, Z)
        self.check_text(STANDING, "lanelanelanelane", "", 0, Z)

    def test_lengths_end_at_sixteen_and_know_no_sign(self):
        rows = {("v", 2): vector(8, [], 0x61), ("v", 3): vector(8, [], 0x61)}
        for long in (16, 17, 1 << 32, 1 << 63, ALL):
            before = dict(rows)
            before.update({("s", 0): long, ("s", 1): long})
            self.check(code(89, d=5, z=ALIKE), before, {("p", 5): 0xFFFF, "flags": C})
            before["s", 1] = 15
            self.check(code(89, d=5, z=ALIKE), before, {("p", 5): 0x7FFF, "flags": Z | C})
            before.update({("s", 0): 15, ("s", 1): long})
            self.check(code(89, d=5, z=ALIKE), before, {("p", 5): 0x7FFF, "flags": C})

    def test_a_zero_byte_is_a_byte_where_lengths_are_told(self):
        before = {("v", 2): vector(8, [0, 5]), ("v", 3): vector(8, [5, 0, 7, 0]), ("s", 0): 1, ("s", 1): 4}
        self.check(code(89, d=5, z=AMONG), before, {("p", 5): 0b1010, "flags": Z | C})
        self.check(code(88, d=5, z=AMONG), before, {("p", 5): 0, "flags": Z})

    def test_lengths_are_nothing_where_texts_end_by_zero(self):
        before = {("v", 2): filled("a"), ("v", 3): filled("banana"), ("s", 0): 0, ("s", 1): 0}
        self.check(code(88, d=5, z=AMONG), before, {("p", 5): 0b101010, "flags": Z | C})

    def test_m_is_zero_where_z_is_below_zero(self):
        before = {("v", 2): filled("a"), ("v", 3): filled("banana")}
        self.check(code(88, d=5, z=-1), before, {("p", 5): 0b101010, "flags": Z | C})
        self.check(code(88, d=5, z=-2), before, {("p", 5): 0b101010, "flags": Z | C})

    def test_flags_are_told_though_predicate_zero_takes_nothing(self):
        before = {("v", 2): filled("a"), ("v", 3): filled("0123456789abcdef")}
        self.check(code(88, d=0, z=AMONG), before, {"flags": C})
        self.check(code(88, d=8, z=AMONG), before, {"flags": C})


if __name__ == "__main__":
    unittest.main()
