"""One instruction that is neither memory's nor a way, found by its number and done."""

from lanewise.bits import gather_bits
from lanewise.fills import fill_maker
from lanewise.masks import mask_step
from lanewise.moves import move_step
from lanewise.pairs import pair_action, paired_lanes
from lanewise.products import product_maker
from lanewise.scalar_steps import scalar_step
from lanewise.shapes import shape_maker
from lanewise.texts import text_step
from lanewise.told import truths_maker

WIDTHS = {
    36: (32, 64),
    53: (8, 16, 32),
    54: (8, 16, 32),
    55: (8, 16, 32),
    56: (8, 16, 32),
    57: (8, 16, 32),
    58: (8, 16, 32),
    62: (16,),
    78: (32, 64),
    87: (32, 64),
}


def fits(order):
    return order.sound and (order.operation not in WIDTHS or order.k in WIDTHS[order.operation])


def first_found(operation, finders):
    for find in finders:
        action = find(operation)
        if action is not None:
            return action
    return None


def made_lanes(order, machine):
    """The lanes that the instruction puts in d; None where it isn't one that puts a vector."""
    action = pair_action(order.operation)
    if action is not None:
        return paired_lanes(action, order, machine)
    make = first_found(order.operation, (fill_maker, shape_maker, product_maker))
    return None if make is None else make(order, machine)


def made_truths(order, machine):
    """The bits that the instruction tells of lanes; None where it isn't one that tells them."""
    make = truths_maker(order.operation)
    return None if make is None else make(order, machine)


def perform(order, machine):
    """Do the instruction on the machine; False, with nothing done, where it is none of these."""
    if not fits(order):
        return False
    lanes = made_lanes(order, machine)
    if lanes is not None:
        machine.put_vector(order, lanes)
        return True
    truths = made_truths(order, machine)
    if truths is not None:
        machine.put_predicate(order.d, gather_bits(truths) & machine.read_predicate(order.g))
        return True
    step = first_found(order.operation, (move_step, mask_step, text_step, scalar_step))
    if step is None:
        return False
    step(order, machine)
    return True
