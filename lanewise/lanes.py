"""The calls that DOC.md's interface names."""

from lanewise.machine import Machine
from lanewise.memory import Memory
from lanewise.order import Order
from lanewise.perform import perform
from lanewise.walk import Walk


def counted(numbers):
    return [len(numbers)] + numbers


def told_parts(machine):
    """The parts that every answer tells of a machine; its flags stand elsewhere in each."""
    return counted(machine.vectors) + counted(machine.predicates) + counted(machine.scalars)


def do(instruction, vectors, predicates, scalars, flags):
    machine = Machine(vectors, predicates, scalars, flags)
    if not perform(Order(instruction), machine):
        return [3]
    return [0] + told_parts(machine) + counted([machine.flags])


def run(steps, vectors, predicates, scalars, here, memory, looked):
    machine = Machine(vectors, predicates, scalars, here[1])
    walk = Walk(machine, Memory(memory), here[0])
    walk.go(steps)
    ended = [walk.done] + counted([walk.why])
    seen = counted(walk.memory.look_at(looked[0], looked[1]))
    return ended + told_parts(machine) + counted([walk.place, machine.flags]) + seen
