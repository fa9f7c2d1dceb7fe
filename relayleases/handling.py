"""What relays and servers do: how a message is handled when it is delivered."""

from relayleases.clients import hear
from relayleases.parts import ASKING, NO, OFFER, SEEKING, YES
from relayleases.parts import AT_SERVER, DOWN, OUT, UP, Message, put


def deliver_at(world, k):
    """Take the message at place k out of the bag and handle it."""
    message = world.bag.pop(k)
    if message.place[0] == UP:
        hand_up(world, message)
    elif message.place[0] == AT_SERVER:
        serve(world, message)
    elif message.place[0] == DOWN:
        hand_down(world, message)
    else:
        come_out(world, message)


def put_on(world, message, place, hops, marks):
    """Put a message on at another place, the rest of it as it was."""
    put(world, Message(place, message.host, message.number, message.kind, message.server, message.address,
                       message.length, hops, marks))


def hand_up(world, message):
    """Mark a message and hand it to the parent, or from relay 0 to all servers."""
    here = (message.place[1], message.place[2])
    relay = world.relays[here[0]]
    # What comes in from outside has no way behind it: hops or marks there are a stranger's.
    if here not in world.hung and (message.hops != 0 or len(message.marks) > 0):
        return
    if message.hops >= relay.limit:
        return
    hops = message.hops + 1
    marks = (here,) + message.marks
    if relay.parent is None:
        for server in range(world.servers):
            put_on(world, message, (AT_SERVER, server, 0), hops, marks)
    else:
        put_on(world, message, (UP, relay.parent, relay.circuit), hops, marks)


def serve(world, message):
    """Let a server look up what is assigned where the message came in, and answer by it."""
    server = message.place[1]
    if world.resting[server] or len(message.marks) == 0:
        return
    oldest = message.marks[-1]
    assigned = world.assigned.get((server, message.host, oldest[0]))
    if message.kind == SEEKING:
        if assigned is not None:
            answer(world, message, OFFER, assigned[0], assigned[1])
    elif message.kind == ASKING and (message.server is None or message.server == server):
        serve_asking(world, message, assigned)


def serve_asking(world, message, assigned):
    """Answer an asking that this server may answer; of an asking to all it is silent where it knows nothing."""
    if assigned is None:
        if message.server is not None:
            answer(world, message, NO, 0, 0)
    elif assigned[0] == message.address:
        write_down(world, message, assigned[1])
        answer(world, message, YES, assigned[0], assigned[1])
    else:
        answer(world, message, NO, 0, 0)


def write_down(world, message, length):
    """Write the end of what is promised; an end that was written is never made earlier."""
    key = (message.place[1], message.host, message.address)
    end = world.now + length
    world.written[key] = max(end, world.written.get(key, end))


def answer(world, message, kind, address, length):
    """Put a server's answer down at relay 0, with the marks by which it finds its way."""
    put(world, Message((DOWN, 0, 0), message.host, message.number, kind, message.place[1], address, length, 0,
                       message.marks))


def hand_down(world, message):
    """Take a relay's own mark off and hand the message on by that circuit."""
    relay = message.place[1]
    if len(message.marks) == 0 or message.marks[0][0] != relay:
        return
    mark = message.marks[0]
    if mark in world.hung:
        place = (DOWN, world.hung[mark], 0)
    else:
        place = (OUT, relay, mark[1])
    put_on(world, message, place, message.hops, message.marks[1:])


def come_out(world, message):
    """Let the client that is meant hear the message, if it is plugged here."""
    client = world.clients.get(message.host)
    if client is not None and client.plugged == (message.place[1], message.place[2]):
        hear(world, client, message)
