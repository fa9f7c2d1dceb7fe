"""Which numbers are granted to each call."""

RANGES = {
    "servers": (1, 4),
    "cap": (1, 10000),
    "time": (0, 1000000000000000),
    "circuit": (0, 4095),
    "limit": (1, 16),
    "host": (0, 281474976710655),
    "address": (0, 4294967295),
    "len": (1, 1000000000),
    "x": (0, 1),
    "t": (0, 20000),
    "m": (0, 1000),
    "number": (1, 1000000000000000000),
    "kind": (1, 5),
    "hops": (0, 16),
    "of a pair": (0, 4095),
}

# Sixteen pairs.
MOST_FURTHER = 32

# By a call's place: what each of its numbers is; behind those of forge stand further ones, in pairs.
NUMBERS = {
    0: ("servers", "cap", "time"),
    1: ("relay", "circuit", "limit"),
    2: ("host", "relay", "circuit"),
    3: ("host",),
    4: ("host",),
    5: ("host",),
    6: ("host",),
    7: ("server", "host", "relay", "address", "len"),
    8: ("server", "host", "relay"),
    9: ("server", "x"),
    10: ("t",),
    11: ("k",),
    12: ("k",),
    13: ("k",),
    14: ("m",),
    15: ("relay", "circuit", "host", "number", "kind", "server or none", "address", "hops"),
    16: ("host",),
    17: ("server", "host"),
    18: ("k",),
    19: ("relay", "circuit"),
    20: (),
    21: (),
}


def is_granted(world, name, number):
    """Tell whether a number is within the range of that name; those of the first four depend on the world."""
    if name == "server":
        return 0 <= number < world.servers
    if name == "server or none":
        return -1 <= number < world.servers
    if name == "relay":
        return 0 <= number < len(world.relays)
    if name == "k":
        return 0 <= number < len(world.bag)
    return RANGES[name][0] <= number <= RANGES[name][1]


def are_pairs(world, further):
    """Tell whether forge's further numbers are pairs, and not too many."""
    if len(further) % 2 != 0 or len(further) > MOST_FURTHER:
        return False
    return all([is_granted(world, "of a pair", number) for number in further])


def are_granted(world, place, numbers):
    """Tell whether all numbers of the call with that place are within their ranges."""
    for name, number in zip(NUMBERS[place], numbers):
        if not is_granted(world, name, number):
            return False
    return are_pairs(world, numbers[len(NUMBERS[place]):])
