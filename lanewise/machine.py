"""What instructions work on: vectors, predicates, scalars and flags."""

from lanewise.bits import cut, has_bit, join_lanes, ones, split_words

ZERO = 1
CARRY = 2


class Machine:
    """Holds copies, so that the lists that were handed in stay as they are."""

    def __init__(self, vectors, predicates, scalars, flags):
        self.vectors = list(vectors)
        self.predicates = [ones(64)] + predicates[1:]
        self.scalars = list(scalars)
        self.flags = flags & (ZERO | CARRY)

    def read_lanes(self, number, k):
        return split_words(self.vectors[8 * number:8 * number + 8], k)

    def write_lanes(self, number, lanes):
        """Lay down a whole vector; how many lanes there are tells how wide they are."""
        for place, word in enumerate(join_lanes(lanes, 512 // len(lanes))):
            self.vectors[8 * number + place] = word

    def put_vector(self, order, lanes):
        """Put these lanes in d where predicate g has a bit; how many there are tells how wide they are."""
        chosen = self.read_predicate(order.g)
        merged = self.kept_lanes(order, 512 // len(lanes))
        for place, lane in enumerate(lanes):
            if has_bit(chosen, place):
                merged[place] = lane
        self.write_lanes(order.d, merged)

    def kept_lanes(self, order, k):
        """What d's lanes are where nothing is put."""
        return [0] * (512 // k) if order.zeroing else self.read_lanes(order.d, k)

    def read_predicate(self, number):
        return self.predicates[number % 8]

    def put_predicate(self, number, word):
        if number % 8 != 0:
            self.predicates[number % 8] = word

    def read_scalar(self, number):
        return self.scalars[number]

    def put_scalar(self, number, value):
        self.scalars[number] = cut(value, 64)

    def put_flags(self, zero, carry):
        self.flags = (ZERO if zero else 0) | (CARRY if carry else 0)

    def has_zero(self):
        return (self.flags & ZERO) != 0

    def has_carry(self):
        return (self.flags & CARRY) != 0
