"""Operations that load from memory or store there.

Each has two halves: which places it asks for, and what it does with them. So all places can be tried
before anything is changed.
"""

from lanewise.bits import cut, has_bit, signed


def lane_bytes(order):
    return order.k // 8


def start(order, machine):
    """What the document calls "at", ahead of its cut to a word."""
    return machine.read_scalar(order.b) + order.z


def chosen_lanes(order, machine):
    chosen = machine.read_predicate(order.g)
    return [i for i in range(order.n) if has_bit(chosen, i)]


def places_by_number(order, machine):
    first = start(order, machine)
    return [first + i * lane_bytes(order) for i in chosen_lanes(order, machine)]


def places_in_a_row(order, machine):
    first = start(order, machine)
    return [first + i * lane_bytes(order) for i in range(len(chosen_lanes(order, machine)))]


def places_by_lanes(order, machine):
    first = start(order, machine)
    xs = machine.read_lanes(order.a, order.k)
    return [first + signed(xs[i], order.k) * lane_bytes(order) for i in chosen_lanes(order, machine)]


def same_places(order, machine):
    return [start(order, machine)] * len(chosen_lanes(order, machine))


def single_place(order, machine):
    return [start(order, machine)]


PLACES = {
    110: places_by_number,
    111: places_by_number,
    112: places_in_a_row,
    113: places_in_a_row,
    114: places_by_lanes,
    115: places_by_lanes,
    116: same_places,
    117: single_place,
    118: single_place,
}


def load_lanes(order, machine, memory, places):
    lanes = [0] * order.n
    for i, place in zip(chosen_lanes(order, machine), places):
        lanes[i] = memory.read_number(place, lane_bytes(order))
    machine.put_vector(order, lanes)


def store_lanes(order, machine, memory, places):
    lanes = machine.read_lanes(order.d, order.k)
    for i, place in zip(chosen_lanes(order, machine), places):
        memory.write_number(place, lane_bytes(order), lanes[i])


def load_scalar(order, machine, memory, places):
    machine.put_scalar(order.d, memory.read_number(places[0], lane_bytes(order)))


def store_scalar(order, machine, memory, places):
    memory.write_number(places[0], lane_bytes(order), machine.read_scalar(order.d))


TRANSFERS = {
    110: load_lanes,
    111: store_lanes,
    112: load_lanes,
    113: store_lanes,
    114: load_lanes,
    115: store_lanes,
    116: load_lanes,
    117: load_scalar,
    118: store_scalar,
}


def is_of_memory(operation):
    return operation in TRANSFERS


def all_held(memory, places, length):
    for place in places:
        if not memory.holds(place, length):
            return False
    return True


def transfer(order, machine, memory):
    """Do an instruction of memory's; False, with nothing done, where bytes that it asks for aren't there."""
    find_places = PLACES.get(order.operation)
    # Places are words like the scalars that they come from, so they wrap whatever was added to them.
    places = [cut(place, 64) for place in find_places(order, machine)]
    if not all_held(memory, places, lane_bytes(order)):
        return False
    action = TRANSFERS.get(order.operation)
    action(order, machine, memory, places)
    return True
