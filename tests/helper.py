"""What the tests share: instructions put together, vectors told by lanes, and a check of all that an answer tells."""

import unittest

from lanewise.lanes import do, run

ALL = 0xFFFFFFFFFFFFFFFF
WIDTHS = (8, 16, 32, 64)
REFUSED = [3]
MOST_STEPS = 1 << 40
CODE = 0x8000
# What the document has besides 0, memory's and ways, and those of it that are for some widths alone.
DONE = list(range(1, 38)) + list(range(40, 59)) + list(range(60, 108)) + list(range(130, 141))
NARROWER = {36: (32, 64), 53: (8, 16, 32), 54: (8, 16, 32), 55: (8, 16, 32), 56: (8, 16, 32), 57: (8, 16, 32),
            58: (8, 16, 32), 62: (16,), 78: (32, 64), 87: (32, 64)}
MEMORY = range(110, 119)
WAYS = range(120, 128)


class Sealed(list):
    """A list that can't be written to."""

    def refuse(self, *others):
        raise AssertionError("written to")

    __setitem__ = __delitem__ = __iadd__ = __imul__ = refuse
    append = clear = extend = insert = pop = remove = reverse = sort = refuse


def code(operation, k=8, q=0, d=1, a=2, b=3, g=0, z=0):
    second = WIDTHS.index(k) + 4 * q
    return operation | second << 8 | d << 16 | a << 20 | b << 24 | g << 28 | (z & 0xFFFFFFFF) << 32


def vector(k, lanes, rest=0):
    """Eight words that hold these lanes of k bits from the lowest on, and rest in the others."""
    count = 512 // k
    assert len(lanes) <= count
    whole = 0
    for place, lane in enumerate(list(lanes) + [rest] * (count - len(lanes))):
        assert 0 <= lane < 1 << k
        whole |= lane << place * k
    return [whole >> low & ALL for low in range(0, 512, 64)]


def cycled(k, lanes):
    """The lanes over and over until the vector is full."""
    count = 512 // k
    return vector(k, (list(lanes) * count)[:count])


def background():
    """A state in which no two vectors, predicates or scalars are alike, and none is 0."""
    state = {}
    for number in range(16):
        state["v", number] = [(8 * number + i + 1) * 0x0123456789ABCDEF & ALL for i in range(8)]
        state["s", number] = (number + 1) * 0x0FEDCBA987654321 & ALL
    for number in range(8):
        state["p", number] = (number + 1) * 0x1F2E3D4C5B6A7988 & ALL
    state["flags"] = 0
    return state


def handed(instruction, state):
    vectors = []
    for number in range(16):
        vectors.extend(state["v", number])
    predicates = [state["p", number] for number in range(8)]
    scalars = [state["s", number] for number in range(16)]
    return [instruction, vectors, predicates, scalars, state["flags"]]


def as_bytes(k, lanes):
    """The bytes of these lanes of k bits as they lie in memory."""
    return [lane >> low & 255 for lane in lanes for low in range(0, k, 8)]


def program(words):
    return as_bytes(64, words)


def laid(pieces):
    """Memory as it is handed over, of rows of bytes by the place that each lies from."""
    first = min(pieces)
    cells = [0] * (max(place + len(row) for place, row in pieces.items()) - first)
    for place, row in pieces.items():
        cells[place - first:place - first + len(row)] = row
    return [first] + cells


def all_bytes(pieces, later=None):
    """All 65536 bytes, of such rows and of those that came over them later."""
    cells = [0] * 65536
    for rows in (pieces, later or {}):
        for place, row in rows.items():
            cells[place:place + len(row)] = row
    return cells


def handed_run(steps, pieces, state, place=CODE, looked=(0, 0)):
    lists = handed(0, state)[1:4]
    return [steps] + lists + [[place, state["flags"]], laid(pieces), list(looked)]


def ask_run(steps, pieces, changes=None, place=CODE, looked=(0, 0)):
    state = background()
    state.update(changes or {})
    return run(*handed_run(steps, pieces, state, place, looked))


def ask(instruction, changes=None):
    state = background()
    state.update(changes or {})
    return do(*handed(instruction, state))


def told(numbers):
    """The state that an answer tells; fails where the answer hasn't the form that the document asks."""
    assert numbers[0] == 0, numbers
    assert len(numbers) == 158, len(numbers)
    assert (numbers[1], numbers[130], numbers[139], numbers[156]) == (128, 8, 16, 1), numbers
    state = {"flags": numbers[157]}
    for number in range(16):
        state["v", number] = numbers[2 + 8 * number:10 + 8 * number]
        state["s", number] = numbers[140 + number]
    for number in range(8):
        state["p", number] = numbers[131 + number]
    return state


def told_run(numbers):
    """The state that an answer of run tells, with how it ended and what was looked at."""
    assert (numbers[1], numbers[158]) == (1, 2), numbers
    assert numbers[161] == len(numbers) - 162, (numbers[161], len(numbers))
    state = told([0] + numbers[3:158] + [1, numbers[160]])
    state["ended"] = (numbers[0], numbers[2], numbers[159])
    state["seen"] = numbers[162:]
    return state


def changed(before, after):
    """The state that is told where before is laid over the background and after is what changes then."""
    expected = background()
    expected.update(before)
    expected["p", 0] = ALL
    expected["flags"] &= 3
    expected.update(after)
    return expected


class Steps(unittest.TestCase):
    maxDiff = None

    def check(self, instruction, before, after):
        """Done on the background with before laid over it, the instruction changes what after tells and no more."""
        expected = changed(before, after)
        answer = told(ask(instruction, before))
        for key in expected:
            shown = [hex(instruction), key, answer[key], expected[key]]
            self.assertEqual(answer[key], expected[key], shown)

    def check_lanes(self, operation, k, before, lanes, z=0, put=None):
        """The lanes that come into vector 1 of vectors 2 and 3, with every lane chosen."""
        self.check(code(operation, k, z=z), before, {("v", 1): vector(put or k, lanes)})

    def check_refused(self, instruction):
        self.assertEqual(ask(instruction), REFUSED, hex(instruction))

    def check_widths(self, operation, widths):
        """The operation is done at these widths and refused at the others."""
        for k in WIDTHS:
            if k in widths:
                self.assertEqual(ask(code(operation, k))[0], 0, (operation, k))
            else:
                self.check_refused(code(operation, k))


class Runs(Steps):
    def check_run(self, words, before, after, stored=None, data=None, steps=None, ended=None, place=CODE):
        """Laid from CODE on and run from the place on, the instructions change what after and stored tell and no more.

        stored is rows of bytes by their places; ended is how many steps were done, why it ended, and the place.
        If they aren't told, each instruction is done once and nothing stops it.
        """
        pieces = {CODE: program(words)}
        pieces.update(data or {})
        steps = len(words) if steps is None else steps
        expected = changed(before, after)
        expected["ended"] = (steps, 0, CODE + 8 * steps) if ended is None else ended
        answer = told_run(ask_run(steps, pieces, before, place, (0, 65536)))
        for key in expected:
            shown = [[hex(word) for word in words], key, answer[key], expected[key]]
            self.assertEqual(answer[key], expected[key], shown)
        # Told by the places that differ: a list of 65536 bytes is too long to be shown.
        seen = answer["seen"]
        cells = all_bytes(pieces, stored)
        self.assertEqual(len(seen), 65536)
        wrong = {at: (seen[at], cells[at]) for at in range(65536) if seen[at] != cells[at]} if seen != cells else {}
        self.assertEqual(wrong, {}, [hex(word) for word in words])

    def check_stop(self, word, before, why, data=None):
        """The instruction stops the run: no step is done, nothing changes, the place stays."""
        self.check_run([word], before, {}, data=data, steps=5, ended=(0, why, CODE))
