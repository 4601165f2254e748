"""The 65536 bytes that instructions and what they load and store lie in."""

SIZE = 65536


class Memory:
    """Holds a copy of the bytes that were handed in; all others are 0."""

    def __init__(self, given):
        first = given[0]
        self.cells = [0] * first + given[1:] + [0] * (SIZE - first - len(given) + 1)

    def holds(self, place, length):
        return 0 <= place <= SIZE - length

    def read_number(self, place, length):
        """The number that so many bytes from the place on are, the lowest first."""
        number = 0
        for cell in reversed(self.cells[place:place + length]):
            number = (number << 8) | cell
        return number

    def write_number(self, place, length, number):
        """Lay down the number's lowest bytes, so many of them, from the place on."""
        for offset in range(length):
            self.cells[place + offset] = (number >> (8 * offset)) & 255

    def look_at(self, place, length):
        return self.cells[place:place + length]
