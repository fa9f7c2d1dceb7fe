"""What each call on a world does: its numbers are within their ranges here; the row answered is given back."""

from relayleases.clients import act_until, come_back, seek
from relayleases.parts import OFF, Client, Relay

MOST_RELAYS = 64
MOST_CLIENTS = 64
MOST_ASSIGNED = 128
LATEST = 1000000000000000


def is_plugged_at(world, relay, circuit):
    """Tell whether any client is plugged at that circuit of the relay."""
    return any([client.plugged == (relay, circuit) for client in world.clients.values()])


def add_relay(world, numbers):
    """Hang a new relay on an outer circuit; the bag must be empty, for the path of what is under way would change."""
    parent = numbers[0]
    circuit = numbers[1]
    if (parent, circuit) in world.hung or is_plugged_at(world, parent, circuit):
        return [-2]
    if len(world.relays) == MOST_RELAYS:
        return [-3]
    if len(world.bag) > 0:
        return [-4]
    new = len(world.relays)
    world.relays.append(Relay(parent, circuit, numbers[2]))
    world.hung[(parent, circuit)] = new
    return [0, new]


def plug(world, numbers):
    """Plug a host in, making it a client if it is none yet."""
    host = numbers[0]
    where = (numbers[1], numbers[2])
    client = world.clients.get(host)
    if client is not None and client.plugged is not None:
        return [-2]
    if where in world.hung:
        return [-3]
    if client is None:
        if len(world.clients) == MOST_CLIENTS:
            return [-4]
        client = Client(host)
        world.clients[host] = client
    client.plugged = where
    return [0]


def unplug(world, numbers):
    """Pull a host's plug; the client is not told and goes on as it was."""
    client = world.clients.get(numbers[0])
    if client is None or client.plugged is None:
        return [-2]
    client.plugged = None
    return [0]


def turn_on(world, numbers):
    """Start a client: with a lease that still runs it comes back, else it seeks."""
    client = world.clients.get(numbers[0])
    if client is None:
        return [-2]
    if client.phase != OFF:
        return [-3]
    if client.lease is not None and client.lease[4] > world.now:
        come_back(world, client, 0)
    else:
        seek(world, client, 0)
    return [0]


def turn_off(world, numbers):
    """Stop a client; counter and lease stay, so that no number comes twice and it may come back."""
    client = world.clients.get(numbers[0])
    if client is None:
        return [-2]
    if client.phase == OFF:
        return [-3]
    client.phase = OFF
    client.awaited = 0
    client.sent = 0
    client.tries = 0
    client.due = None
    client.offer = None
    return [0]


def forget(world, numbers):
    """Take the lease from a client that is off."""
    client = world.clients.get(numbers[0])
    if client is None:
        return [-2]
    if client.phase != OFF:
        return [-3]
    client.lease = None
    return [0]


def assign(world, numbers):
    """Assign an address and a len to a server, host and relay, in place of what was."""
    key = (numbers[0], numbers[1], numbers[2])
    if key not in world.assigned and len(world.assigned) == MOST_ASSIGNED:
        return [-2]
    world.assigned[key] = (numbers[3], numbers[4])
    return [0]


def withdraw(world, numbers):
    """Take back what is assigned to a server, host and relay; what is written stays."""
    key = (numbers[0], numbers[1], numbers[2])
    if key not in world.assigned:
        return [-2]
    world.assigned.pop(key)
    return [0]


def rest(world, numbers):
    """Let a server rest or work."""
    world.resting[numbers[0]] = numbers[1] == 1
    return [0]


def tick(world, numbers):
    """Let time go on, and the clients act whose due comes."""
    until = world.now + numbers[0]
    if until > LATEST:
        return [-2]
    acts = act_until(world, until)
    world.now = until
    return [0, until, acts]


# By a call's place; begin is none of these, for it needs no world.
CALLS = {
    1: add_relay,
    2: plug,
    3: unplug,
    4: turn_on,
    5: turn_off,
    6: forget,
    7: assign,
    8: withdraw,
    9: rest,
    10: tick,
}


def row_of(world, place, numbers):
    """Play one call on the world and give back the row it answers."""
    return CALLS[place](world, numbers)
