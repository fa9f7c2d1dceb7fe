"""How messages, clients, what is written and paths are told in whole numbers; nothing is changed here."""

# Where there is none.
NOWHERE = (-1, -1)
NO_OFFER = (-1, 0, 0)
NO_LEASE = (-1, 0, 0, 0, 0)


def or_else(value, instead):
    """The value, or what is told instead where there is none."""
    return instead if value is None else value


def pairs_row(pairs):
    """How many pairs there are, then the two numbers of each."""
    row = [len(pairs)]
    for pair in pairs:
        row.extend(pair)
    return row


def message_row(message):
    """A message's numbers."""
    row = list(message.place)
    row.extend([message.host, message.number, message.kind, or_else(message.server, -1)])
    row.extend([message.address, message.length, message.hops])
    row.extend(pairs_row(message.marks))
    return row


def client_row(client):
    """A client's numbers."""
    row = [client.phase, client.counter, client.awaited, client.sent, client.tries, or_else(client.due, -1)]
    row.extend(or_else(client.plugged, NOWHERE))
    row.extend(or_else(client.offer, NO_OFFER))
    row.extend(or_else(client.lease, NO_LEASE))
    return row


def written_of(world, server, host):
    """Pairs of address and end that a server wrote for a host, in the order of addresses."""
    return sorted([(key[2], end) for key, end in world.written.items() if key[0] == server and key[1] == host])


def path_of(world, relay, circuit):
    """The marks, latest first, of a message that came in at a circuit of a relay and is above relay 0."""
    marks = [(relay, circuit)]
    at = world.relays[relay]
    while at.parent is not None:
        marks.insert(0, (at.parent, at.circuit))
        at = world.relays[at.parent]
    return marks
