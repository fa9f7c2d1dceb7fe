"""What each call on a world does: its numbers are within their ranges here; the row answered is given back."""

from relayleases.clients import act_until, come_back, seek
from relayleases.handling import deliver_at
from relayleases.parts import OFF, UP, Client, Message, Relay, put
from relayleases.rows import client_row, message_row, pairs_row, path_of, written_of

MOST_RELAYS = 64
MOST_CLIENTS = 64
MOST_ASSIGNED = 128
LATEST = 1000000000000000


def is_plugged_at(world, relay, circuit):
    """Tell whether any client is plugged at that circuit of the relay."""
    return any([client.plugged == (relay, circuit) for client in world.clients.values()])


def add_relay(world, numbers):
    """Hang a new relay on an outer circuit; the bag must be empty, for the path of what is under way would change."""
    parent = numbers[0]
    circuit = numbers[1]
    if (parent, circuit) in world.hung or is_plugged_at(world, parent, circuit):
        return [-2]
    if len(world.relays) == MOST_RELAYS:
        return [-3]
    if len(world.bag) > 0:
        return [-4]
    new = len(world.relays)
    world.relays.append(Relay(parent, circuit, numbers[2]))
    world.hung[(parent, circuit)] = new
    return [0, new]


def plug(world, numbers):
    """Plug a host in, making it a client if it is none yet."""
    host = numbers[0]
    where = (numbers[1], numbers[2])
    client = world.clients.get(host)
    if client is not None and client.plugged is not None:
        return [-2]
    if where in world.hung:
        return [-3]
    if client is None:
        if len(world.clients) == MOST_CLIENTS:
            return [-4]
        client = Client(host)
        world.clients[host] = client
    client.plugged = where
    return [0]


def unplug(world, numbers):
    """Pull a host's plug; the client is not told and goes on as it was."""
    client = world.clients.get(numbers[0])
    if client is None or client.plugged is None:
        return [-2]
    client.plugged = None
    return [0]


def turn_on(world, numbers):
    """Start a client: with a lease that still runs it comes back, else it seeks."""
    client = world.clients.get(numbers[0])
    if client is None:
        return [-2]
    if client.phase != OFF:
        return [-3]
    if client.lease is not None and client.lease[4] > world.now:
        come_back(world, client, 0)
    else:
        seek(world, client, 0)
    return [0]


def turn_off(world, numbers):
    """Stop a client; counter and lease stay, so that no number comes twice and it may come back."""
    client = world.clients.get(numbers[0])
    if client is None:
        return [-2]
    if client.phase == OFF:
        return [-3]
    client.phase = OFF
    client.awaited = 0
    client.sent = 0
    client.tries = 0
    client.due = None
    client.offer = None
    return [0]


def forget(world, numbers):
    """Take the lease from a client that is off."""
    client = world.clients.get(numbers[0])
    if client is None:
        return [-2]
    if client.phase != OFF:
        return [-3]
    client.lease = None
    return [0]


def assign(world, numbers):
    """Assign an address and a len to a server, host and relay, in place of what was."""
    key = (numbers[0], numbers[1], numbers[2])
    if key not in world.assigned and len(world.assigned) == MOST_ASSIGNED:
        return [-2]
    world.assigned[key] = (numbers[3], numbers[4])
    return [0]


def withdraw(world, numbers):
    """Take back what is assigned to a server, host and relay; what is written stays."""
    key = (numbers[0], numbers[1], numbers[2])
    if key not in world.assigned:
        return [-2]
    world.assigned.pop(key)
    return [0]


def rest(world, numbers):
    """Let a server rest or work."""
    world.resting[numbers[0]] = numbers[1] == 1
    return [0]


def tick(world, numbers):
    """Let time go on, and the clients act whose due comes."""
    until = world.now + numbers[0]
    if until > LATEST:
        return [-2]
    acts = act_until(world, until)
    world.now = until
    return [0, until, acts]


def is_full(world):
    """Tell whether the bag holds all that it may."""
    return len(world.bag) == world.cap


def deliver(world, numbers):
    """Deliver the message at place k, and tell each message that was put for it."""
    # Handling only puts in at the end, so what was put stands behind all that was left.
    left = len(world.bag) - 1
    deliver_at(world, numbers[0])
    row = [0, len(world.bag) - left]
    for message in world.bag[left:]:
        told = message_row(message)
        row.append(len(told))
        row.extend(told)
    return row


def lose(world, numbers):
    """Take the message at place k out of the bag."""
    world.bag.pop(numbers[0])
    return [0]


def double(world, numbers):
    """Put a copy of the message at place k."""
    if is_full(world):
        return [-3]
    put(world, world.bag[numbers[0]])
    return [0]


def flow(world, numbers):
    """Deliver the oldest message again and again, those too that are put meanwhile."""
    delivered = 0
    while delivered < numbers[0] and len(world.bag) > 0:
        deliver_at(world, 0)
        delivered += 1
    return [0, delivered]


def forge(world, numbers):
    """Put a stranger's message up at an outer circuit."""
    where = (numbers[0], numbers[1])
    client = world.clients.get(numbers[2])
    if where in world.hung:
        return [-2]
    # A stranger knows no number before it is used.
    if client is None or numbers[3] > client.counter:
        return [-3]
    if is_full(world):
        return [-4]
    server = None if numbers[5] == -1 else numbers[5]
    marks = [(numbers[at], numbers[at + 1]) for at in range(8, len(numbers), 2)]
    put(world, Message((UP,) + where, numbers[2], numbers[3], numbers[4], server, numbers[6], 0, numbers[7],
                       tuple(marks)))
    return [0]


def tell_client(world, numbers):
    """Tell all of a client."""
    client = world.clients.get(numbers[0])
    if client is None:
        return [-2]
    return [0] + client_row(client)


def tell_written(world, numbers):
    """Tell what a server wrote for a host."""
    return [0] + pairs_row(written_of(world, numbers[0], numbers[1]))


def peek(world, numbers):
    """Tell the message at place k."""
    return [0] + message_row(world.bag[numbers[0]])


def tell_path(world, numbers):
    """Tell the marks of what comes in at a circuit of a relay."""
    return [0] + pairs_row(path_of(world, numbers[0], numbers[1]))


def tell_next(world, numbers):
    """Tell the earliest due."""
    return [0, min([client.due for client in world.clients.values() if client.due is not None], default=-1)]


def tell_state(world, numbers):
    """Tell the time and how much there is."""
    return [0, world.now, len(world.bag), len(world.relays), len(world.clients)]


# By a call's place; begin is none of these, for it needs no world.
CALLS = {
    1: add_relay,
    2: plug,
    3: unplug,
    4: turn_on,
    5: turn_off,
    6: forget,
    7: assign,
    8: withdraw,
    9: rest,
    10: tick,
    11: deliver,
    12: lose,
    13: double,
    14: flow,
    15: forge,
    16: tell_client,
    17: tell_written,
    18: peek,
    19: tell_path,
    20: tell_next,
    21: tell_state,
}


def row_of(world, place, numbers):
    """Play one call on the world and give back the row it answers."""
    return CALLS[place](world, numbers)
