"""What there is: relays, messages, clients, and the world that holds them.

Where the words say "none" or "nowhere", the value is None.
"""

FIRST_LIMIT = 16

# Where a message in the bag is.
UP = 0
AT_SERVER = 1
DOWN = 2
OUT = 3

# The kinds of messages.
SEEKING = 1
OFFER = 2
ASKING = 3
YES = 4
NO = 5

# The phases of clients.
OFF = 0
SEEKS = 1
ASKS = 2
BOUND = 3
RENEWS = 4
ASKS_ALL = 5
COMES_BACK = 6


class Relay:
    """A relay, hung on a circuit of its parent; relay 0 hangs nowhere."""

    def __init__(self, parent, circuit, limit):
        self.parent = parent
        self.circuit = circuit
        self.limit = limit


class Message:
    """A message at a place: a tuple of the place's kind, the relay or server, and the circuit (0 where there is none).

    The marks are a tuple of pairs, the latest first. No message is ever changed once it is made, so a copy may be the
    same object.
    """

    def __init__(self, place, host, number, kind, server, address, length, hops, marks):
        self.place = place
        self.host = host
        self.number = number
        self.kind = kind
        self.server = server
        self.address = address
        self.length = length
        self.hops = hops
        self.marks = marks


class Client:
    """A host that was plugged in once: plugged is a relay and a circuit.

    The offer is a tuple of server, address and len; the lease one of server, address, half, late and end.
    """

    def __init__(self, host):
        self.host = host
        self.plugged = None
        self.phase = OFF
        self.counter = 0
        self.awaited = 0
        self.sent = 0
        self.tries = 0
        self.due = None
        self.offer = None
        self.lease = None


class World:
    """All that is played with, as begin makes it.

    hung tells the relay on an inner circuit; assigned is kept by server, host and relay; written by server, host
    and address.
    """

    def __init__(self, servers, cap, now):
        self.now = now
        self.servers = servers
        self.cap = cap
        self.relays = [Relay(None, None, FIRST_LIMIT)]
        self.hung = {}
        self.clients = {}
        self.resting = [False] * servers
        self.assigned = {}
        self.written = {}
        self.bag = []


def put(world, message):
    """Put a message in at the bag's end; a full bag loses it."""
    if len(world.bag) < world.cap:
        world.bag.append(message)
