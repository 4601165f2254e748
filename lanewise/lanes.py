"""The calls that DOC.md's interface names."""

from lanewise.machine import Machine
from lanewise.order import Order
from lanewise.perform import perform


def counted(numbers):
    return [len(numbers)] + numbers


def told_parts(machine):
    parts = counted(machine.vectors) + counted(machine.predicates)
    return parts + counted(machine.scalars) + counted([machine.flags])


def do(instruction, vectors, predicates, scalars, flags):
    machine = Machine(vectors, predicates, scalars, flags)
    if not perform(Order(instruction), machine):
        return [3]
    return [0] + told_parts(machine)
