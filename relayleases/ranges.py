"""Which numbers are granted to each call."""

RANGES = {
    "servers": (1, 4),
    "cap": (1, 10000),
    "time": (0, 1000000000000000),
    "circuit": (0, 4095),
    "limit": (1, 16),
    "host": (0, 281474976710655),
    "address": (0, 4294967295),
    "len": (1, 1000000000),
    "x": (0, 1),
    "t": (0, 20000),
}

# By a call's place: what each of its numbers is.
NUMBERS = {
    0: ("servers", "cap", "time"),
    1: ("relay", "circuit", "limit"),
    2: ("host", "relay", "circuit"),
    3: ("host",),
    4: ("host",),
    5: ("host",),
    6: ("host",),
    7: ("server", "host", "relay", "address", "len"),
    8: ("server", "host", "relay"),
    9: ("server", "x"),
    10: ("t",),
}


def is_granted(world, name, number):
    """Tell whether a number is within the range of that name; only servers and relays depend on the world."""
    if name == "server":
        return 0 <= number < world.servers
    if name == "relay":
        return 0 <= number < len(world.relays)
    return RANGES[name][0] <= number <= RANGES[name][1]


def are_granted(world, place, numbers):
    """Tell whether all numbers of the call with that place are within their ranges."""
    for name, number in zip(NUMBERS[place], numbers):
        if not is_granted(world, name, number):
            return False
    return True
