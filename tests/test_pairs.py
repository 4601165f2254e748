"""Promise 1: the operations that make a lane of a's and b's lanes alone (1 to 24, 27 to 32)."""

import unittest

from helper import WIDTHS, Steps, code, cycled

# Each row: the operation, the width, then a's lane, b's lane and the answer, three by three, in hexadecimal digits.
CASES = """
1 8: 01 02 03, ff 01 00, 7f 01 80, 80 80 00
1 16: 00ff 0001 0100, ffff 0002 0001
1 32: 0000ffff 00000001 00010000, ffffffff 00000001 00000000
1 64: ffffffff 1 100000000, ffffffffffffffff 3 2

2 8: 05 03 02, 00 01 ff, 80 01 7f, 03 03 00
2 16: 0100 0001 00ff, 0000 0001 ffff
2 32: 10000 1 ffff, 0 2 fffffffe
2 64: 100000000 1 ffffffff, 0 1 ffffffffffffffff

3 8: 10 10 00, 0f 11 ff, ff ff 01, 03 05 0f
3 16: 0100 0100 0000, 00ff 0101 ffff, ffff ffff 0001
3 32: 10000 10000 0, ffff 10001 ffffffff, ffffffff ffffffff 1
3 64: 100000000 100000000 0, ffffffff 100000001 ffffffffffffffff, ffffffffffffffff ffffffffffffffff 1

4 8: ff ff fe, 10 10 01, 0f 11 00, 80 02 01
4 16: ffff ffff fffe, 0100 0100 0001, 8000 0002 0001
4 32: ffffffff ffffffff fffffffe, 10000 10000 1, ffff 10001 0
4 64: ffffffffffffffff ffffffffffffffff fffffffffffffffe, 100000000 100000000 1, 8000000000000000 2 1

5 8: ff ff 00, ff 01 ff, 80 80 40, 80 7f c0, 10 10 01
5 16: ffff ffff 0000, ffff 0001 ffff, 8000 8000 4000, 8000 7fff c000
5 32: ffffffff ffffffff 0, ffffffff 1 ffffffff, 80000000 80000000 40000000, 10000 10000 1
5 64: ffffffffffffffff 1 ffffffffffffffff, 8000000000000000 8000000000000000 4000000000000000, 100000000 100000000 1

6 8: 01 02 02, ff ff ff, 00 00 00, ff 00 80, 03 03 03
6 16: ffff fffe ffff, 0001 0000 0001, 0002 0000 0001
6 32: ffffffff ffffffff ffffffff, 1 2 2
6 64: ffffffffffffffff ffffffffffffffff ffffffffffffffff, ffffffffffffffff 0 8000000000000000

7 8: 05 03 02, 03 05 02, 00 ff ff, 80 7f 01, 09 09 00
7 16: 0000 ffff ffff, 8000 7fff 0001
7 32: 1 ffffffff fffffffe, 80000000 7fffffff 1
7 64: 0 ffffffffffffffff ffffffffffffffff, 7 7 0

8 8: 80 7f 7f, 00 ff 00, 05 05 05
8 16: 8000 7fff 7fff, 0001 ffff 0001
8 32: 80000000 7fffffff 7fffffff, 1 ffffffff 1
8 64: 8000000000000000 7fffffffffffffff 7fffffffffffffff, 1 ffffffffffffffff 1

9 8: 80 7f 80, 00 ff ff, 05 05 05
9 16: 8000 7fff 8000, 0001 ffff ffff
9 32: 80000000 7fffffff 80000000, 1 ffffffff ffffffff
9 64: 8000000000000000 7fffffffffffffff 8000000000000000, 1 ffffffffffffffff ffffffffffffffff

10 8: 80 7f 80, 00 ff ff, 05 06 05, fe ff fe
10 16: 8000 7fff 8000, 0001 ffff ffff
10 32: 80000000 7fffffff 80000000, 1 ffffffff ffffffff
10 64: 8000000000000000 7fffffffffffffff 8000000000000000, 1 ffffffffffffffff ffffffffffffffff

11 8: 80 7f 7f, 00 ff 00, 05 06 06, fe ff ff
11 16: 8000 7fff 7fff, 0001 ffff 0001
11 32: 80000000 7fffffff 7fffffff, 1 ffffffff 1
11 64: 8000000000000000 7fffffffffffffff 7fffffffffffffff, 1 ffffffffffffffff 1

12 8: 7f 01 7f, 7e 01 7f, 40 40 7f, 80 ff 80, 81 ff 80, 80 80 80, 7f 80 ff, 01 fe ff
12 16: 7fff 0001 7fff, 8000 ffff 8000, 7fff 8000 ffff
12 32: 7fffffff 1 7fffffff, 80000000 ffffffff 80000000, 1 2 3
12 64: 7fffffffffffffff 1 7fffffffffffffff, 8000000000000000 ffffffffffffffff 8000000000000000, 1 2 3

13 8: ff 01 ff, fe 01 ff, 80 80 ff, 7f 01 80, 01 02 03
13 16: ffff ffff ffff, 7fff 0001 8000
13 32: ffffffff 1 ffffffff, 7fffffff 1 80000000
13 64: ffffffffffffffff 1 ffffffffffffffff, 7fffffffffffffff 1 8000000000000000

14 8: 80 01 80, 81 01 80, 7f ff 7f, 7e ff 7f, 00 80 7f, 05 07 fe
14 16: 8000 0001 8000, 7fff ffff 7fff, 0005 0007 fffe
14 32: 80000000 1 80000000, 0 80000000 7fffffff, 5 7 fffffffe
14 64: 8000000000000000 1 8000000000000000, 0 8000000000000000 7fffffffffffffff, 5 7 fffffffffffffffe

15 8: 00 01 00, 05 07 00, 80 01 7f, ff ff 00, ff 01 fe
15 16: 0000 ffff 0000, 8000 0001 7fff
15 32: 0 1 0, 80000000 1 7fffffff
15 64: 0 ffffffffffffffff 0, 8000000000000000 1 7fffffffffffffff

16 8: cc aa 88, ff 0f 0f
16 16: ccf0 aaff 88f0
16 32: cccc0000 aaaaffff 88880000
16 64: cccccccc00000000 aaaaaaaaffffffff 8888888800000000

17 8: cc aa ee, f0 0f ff
17 16: ccf0 aa00 eef0
17 32: cccc0000 aaaaffff eeeeffff
17 64: cccccccc00000000 aaaaaaaaffffffff eeeeeeeeffffffff

18 8: cc aa 66, ff 0f f0
18 16: ccf0 aaff 660f
18 32: cccc0000 aaaaffff 6666ffff
18 64: cccccccc00000000 aaaaaaaaffffffff 66666666ffffffff

19 8: cc aa 22, 00 ff ff, ff ff 00, 00 00 00
19 16: ccf0 aaff 220f
19 32: cccc0000 aaaaffff 2222ffff
19 64: cccccccc00000000 aaaaaaaaffffffff 22222222ffffffff

20 8: 01 07 80, 81 01 02, ff 08 00, ff ff 00, ff 00 ff
20 16: 0001 000f 8000, ffff 0010 0000, ffff 0100 0000
20 32: 1 1f 80000000, ffffffff 20 0, ffffffff ffffffff 0
20 64: 1 3f 8000000000000000, ffffffffffffffff 40 0, 1 ffffffffffffffff 0

21 8: 80 07 01, ff 04 0f, ff 08 00, ff ff 00, ff 00 ff
21 16: 8000 000f 0001, ffff 0010 0000, ffff 0100 0000
21 32: 80000000 1f 1, ffffffff 20 0, ffffffff ffffffff 0
21 64: 8000000000000000 3f 1, ffffffffffffffff 40 0, ffffffffffffffff ffffffffffffffff 0

22 8: 80 07 ff, 80 08 ff, 80 ff ff, 7f 06 01, 7f 07 00, 7f ff 00, f0 02 fc, 80 00 80
22 16: 8000 000f ffff, 8000 0010 ffff, 7fff ffff 0000, ff00 0004 fff0
22 32: 80000000 1f ffffffff, 80000000 20 ffffffff, 40000000 1e 1, 40000000 ffffffff 0
22 64: 8000000000000000 3f ffffffffffffffff, 8000000000000000 40 ffffffffffffffff, 4000000000000000 ffffffffffffffff 0

23 8: 81 01 03, 81 08 81, 81 09 03, 12 04 21, 12 fc 21, 81 00 81
23 16: 8001 0001 0003, 1234 0004 2341, 1234 0010 1234, 1234 ffff 091a
23 32: 12345678 8 34567812, 12345678 20 12345678, 80000001 21 3
23 64: 123456789abcdef0 8 3456789abcdef012, 8000000000000001 41 3, 1 ffffffffffffffff 8000000000000000

24 8: 81 01 c0, 81 08 81, 81 09 c0, 12 04 21, 01 ff 02, 81 00 81
24 16: 8001 0001 c000, 1234 0004 4123, 1234 0010 1234, 1234 ffff 2468
24 32: 12345678 8 78123456, 12345678 20 12345678, 80000001 21 c0000000
24 64: 123456789abcdef0 8 f0123456789abcde, 8000000000000001 41 c000000000000000, 1 ffffffffffffffff 2

27 8: 80 11 80, ff 22 01, 7f 33 7f, 00 44 00, 81 55 7f
27 16: 8000 1111 8000, ffff 2222 0001, 7fff 3333 7fff
27 32: 80000000 1 80000000, ffffffff 2 1, 5 3 5
27 64: 8000000000000000 1 8000000000000000, ffffffffffffffff 2 1, 5 3 5

28 8: 01 11 ff, 80 22 80, 00 33 00, ff 44 01
28 16: 0001 1111 ffff, 8000 2222 8000, 0000 3333 0000
28 32: 1 1 ffffffff, 80000000 2 80000000, fffffffe 3 2
28 64: 1 1 ffffffffffffffff, 8000000000000000 2 8000000000000000, 0 3 0

29 8: 05 01 05, 05 00 00, 05 ff fb, 05 7f 05, 05 80 fb, 80 80 80, 80 7f 80, 00 ff 00
29 16: 0005 7fff 0005, 0005 0000 0000, 0005 8000 fffb
29 32: 5 7fffffff 5, 5 0 0, 5 80000000 fffffffb
29 64: 5 7fffffffffffffff 5, 5 0 0, 5 8000000000000000 fffffffffffffffb

30 8: ff 11 08, 80 22 01, 00 33 00, a5 44 04
30 16: ffff 1111 0010, 8001 2222 0002, 0000 3333 0000
30 32: ffffffff 1 20, 80000001 2 2
30 64: ffffffffffffffff 1 40, 8000000000000001 2 2, 0 3 0

31 8: 00 11 08, 01 22 07, 80 33 00, 1f 44 03
31 16: 0000 1111 0010, 0001 2222 000f, ffff 3333 0000
31 32: 0 1 20, 1 2 1f, 80000000 3 0
31 64: 0 1 40, 1 2 3f, 8000000000000000 3 0

32 8: 40 40 20, 80 80 80, ff 01 00, 80 01 ff, 01 40 01, 01 20 00, 01 60 01, 03 c0 ff, fd 20 ff
32 16: 4000 4000 2000, 8000 8000 8000, 7fff 7fff 7ffe, 0001 4000 0001, 0001 3fff 0000, ffff 4000 0000, ffff 4001 ffff
32 32: 40000000 40000000 20000000, 80000000 80000000 80000000, ffffffff 1 0, 1 40000000 1
32 64: 4000000000000000 4000000000000000 2000000000000000, 8000000000000000 8000000000000000 8000000000000000, 1 4000000000000000 1
"""


def rows():
    for row in CASES.split("\n"):
        if row:
            head, tail = row.split(":")
            operation, k = [int(word) for word in head.split()]
            threes = [[int(word, 16) for word in three.split()] for three in tail.split(",")]
            yield operation, k, threes


class Pairs(Steps):
    def test_each_row(self):
        for operation, k, threes in rows():
            before = {("v", 2): cycled(k, [x for x, y, answer in threes]),
                      ("v", 3): cycled(k, [y for x, y, answer in threes])}
            self.check(code(operation, k), before, {("v", 1): cycled(k, [answer for x, y, answer in threes])})

    def test_each_operation_has_a_row_at_each_width(self):
        told = [(operation, k) for operation, k, threes in rows()]
        asked = [(operation, k) for operation in list(range(1, 25)) + list(range(27, 33)) for k in WIDTHS]
        self.assertEqual(told, asked)

    def test_masked_and_zeroed(self):
        for operation, k, threes in rows():
            before = {("v", 1): cycled(k, [5]), ("v", 2): cycled(k, [threes[0][0]]),
                      ("v", 3): cycled(k, [threes[0][1]]), ("p", 7): 0x5555555555555555}
            self.check(code(operation, k, g=7), before, {("v", 1): cycled(k, [threes[0][2], 5])})
            self.check(code(operation, k, q=1, g=7), before, {("v", 1): cycled(k, [threes[0][2], 0])})


if __name__ == "__main__":
    unittest.main()
