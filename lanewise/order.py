"""An instruction taken apart into its fields."""

from lanewise.bits import signed


class Order:
    """The fields of one instruction; sound is False where its bytes can't be one, whatever the operation."""

    def __init__(self, instruction):
        second = (instruction >> 8) & 255
        self.sound = second <= 7 and ((instruction >> 31) & 1) == 0
        self.operation = instruction & 255
        self.k = 8 << (second & 3)
        self.n = 512 // self.k
        self.zeroing = (second & 4) != 0
        self.d = (instruction >> 16) & 15
        self.a = (instruction >> 20) & 15
        self.b = (instruction >> 24) & 15
        self.g = (instruction >> 28) & 7
        self.z = signed(instruction >> 32, 32)
        self.m = max(self.z, 0)
