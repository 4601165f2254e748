"""Instructions of memory done one after another."""

from lanewise.bits import cut
from lanewise.memory_steps import is_of_memory, transfer
from lanewise.order import Order
from lanewise.perform import perform
from lanewise.ways import way

ORDER_BYTES = 8
GOES_ON = 0
ASKED_TO_STOP = 1
NO_INSTRUCTION = 3
NOT_IN_MEMORY = 4


class Walk:
    """A machine on its way through memory: where it is, how many steps were done, and why it ended."""

    def __init__(self, machine, memory, place):
        self.machine = machine
        self.memory = memory
        self.place = place
        self.done = 0
        self.why = GOES_ON

    def go(self, steps):
        while self.done < steps:
            self.why = self.try_step()
            if self.why != GOES_ON:
                return
            self.done += 1

    def try_step(self):
        """Do the instruction at the place and move on, or do nothing and tell why not."""
        if not self.memory.holds(self.place, ORDER_BYTES):
            return NOT_IN_MEMORY
        order = Order(self.memory.read_number(self.place, ORDER_BYTES))
        if not order.sound:
            return NO_INSTRUCTION
        if order.operation == 0:
            return ASKED_TO_STOP
        after = self.place + ORDER_BYTES
        find_place = way(order.operation)
        if find_place is not None:
            self.place = cut(find_place(order, self.machine, after), 64)
            return GOES_ON
        why = self.obey(order)
        if why == GOES_ON:
            self.place = after
        return why

    def obey(self, order):
        """Do an instruction that goes on at the place behind it, or do nothing and tell why not."""
        if is_of_memory(order.operation):
            return GOES_ON if transfer(order, self.machine, self.memory) else NOT_IN_MEMORY
        return GOES_ON if perform(order, self.machine) else NO_INSTRUCTION
