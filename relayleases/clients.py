"""What clients do: send, seek, ask, come back, settle, act and hear."""

from relayleases.parts import ASKING, NO, OFFER, SEEKING, UP, YES
from relayleases.parts import ASKS, ASKS_ALL, BOUND, COMES_BACK, OFF, RENEWS, SEEKS
from relayleases.parts import Message, put

# By tries, which are never more than 10: the lesser of 64 and 4 * 2^tries, less 1.
WAITS = (3, 7, 15, 31, 63, 63, 63, 63, 63, 63, 63)

MOST_SEEKING_TRIES = 10
LAST_ASKING_TRY = 3
LAST_RETURNING_TRY = 2
LEAST_PAUSE = 60


def send(world, client, kind, server, address):
    """Send a message; a client that is plugged nowhere only believes that it did."""
    client.counter += 1
    client.awaited = client.counter
    client.sent = world.now
    if client.plugged is not None:
        place = (UP, client.plugged[0], client.plugged[1])
        put(world, Message(place, client.host, client.counter, kind, server, address, 0, 0, ()))


def wait_of(client):
    """How long the client waits for an answer to what it has just sent."""
    return WAITS[client.tries] + client.counter % 3


def seek(world, client, tries):
    """Look for any server, giving up what was offered or held."""
    client.offer = None
    client.lease = None
    client.phase = SEEKS
    client.tries = tries
    send(world, client, SEEKING, None, 0)
    client.due = world.now + wait_of(client)


def ask(world, client, tries):
    """Ask for the best offer, which is kept: the yes must fit it."""
    client.phase = ASKS
    client.tries = tries
    send(world, client, ASKING, client.offer[0], client.offer[1])
    client.due = world.now + wait_of(client)


def come_back(world, client, tries):
    """Ask any server whether the lease still holds."""
    client.phase = COMES_BACK
    client.tries = tries
    send(world, client, ASKING, None, client.lease[1])
    client.due = world.now + wait_of(client)


def settle(world, client):
    """Go on as the lease's times tell."""
    if world.now < client.lease[2]:
        bind(client)
    elif world.now < client.lease[3]:
        renew(world, client, RENEWS, client.lease[0], client.lease[3])
    elif world.now < client.lease[4]:
        renew(world, client, ASKS_ALL, None, client.lease[4])
    else:
        seek(world, client, 0)


def bind(client):
    """Rest until half of the lease is over; sent stays as it was."""
    client.phase = BOUND
    client.tries = 0
    client.awaited = 0
    client.due = client.lease[2]


def renew(world, client, phase, server, limit):
    """Ask for the lease's address anew, and look again halfway to the limit or at it."""
    client.phase = phase
    client.tries = 0
    send(world, client, ASKING, server, client.lease[1])
    pause = max(LEAST_PAUSE, (limit - world.now) // 2)
    client.due = min(limit, world.now + pause)


def act(world, client):
    """Do what the phase asks for now that the due has come."""
    if client.phase == SEEKS:
        act_seeking(world, client)
    elif client.phase == ASKS:
        act_asking(world, client)
    elif client.phase == COMES_BACK and client.tries < LAST_RETURNING_TRY:
        come_back(world, client, client.tries + 1)
    else:
        settle(world, client)


def act_seeking(world, client):
    """Take the best offer up, or seek again."""
    if client.offer is not None:
        ask(world, client, 0)
    else:
        seek(world, client, min(client.tries + 1, MOST_SEEKING_TRIES))


def act_asking(world, client):
    """Ask once more, or give the offer up."""
    if client.tries < LAST_ASKING_TRY:
        ask(world, client, client.tries + 1)
    else:
        seek(world, client, 0)


def act_until(world, until):
    """Let all clients act whose due is not later than until; now goes along. Answers how often they acted."""
    # Who acts changes its own due alone, and always has one afterwards: one list of dues serves the whole walk.
    # It is in the order of hosts, so the first place of the earliest due is that of the least host.
    waiting = [world.clients[host] for host in sorted(world.clients) if world.clients[host].due is not None]
    dues = [client.due for client in waiting]
    acts = 0
    earliest = min(dues, default=until + 1)
    while earliest <= until:
        world.now = earliest
        first = dues.index(earliest)
        act(world, waiting[first])
        dues[first] = waiting[first].due
        acts += 1
        earliest = min(dues)
    return acts


def hear(world, client, message):
    """Take in a message that came out where the client is plugged; only an answer to its last one counts."""
    if client.phase == OFF or message.number != client.awaited:
        return
    if message.kind == OFFER:
        hear_offer(client, message)
    elif message.kind == YES:
        hear_yes(world, client, message)
    elif message.kind == NO and client.phase in (ASKS, RENEWS, ASKS_ALL, COMES_BACK):
        seek(world, client, 0)


def hear_offer(client, message):
    """Keep the offer if it is the best so far."""
    if client.phase == SEEKS and is_better(message, client.offer):
        client.offer = (message.server, message.address, message.length)


def is_better(message, best):
    """Tell whether a message's offer is better than the best one so far: longer, or of a smaller server."""
    if best is None:
        return True
    if message.length == best[2]:
        return message.server < best[0]
    return message.length > best[2]


def hear_yes(world, client, message):
    """Take a fitting yes as the lease, counted from when it was asked for: the server wrote its end no earlier."""
    end = client.sent + message.length
    if is_fitting(client, message) and end > world.now:
        half = client.sent + message.length // 2
        late = client.sent + message.length * 7 // 8
        client.offer = None
        client.lease = (message.server, message.address, half, late, end)
        settle(world, client)


def is_fitting(client, message):
    """Tell whether a yes is one to what the client asks for in its phase."""
    if client.phase == ASKS:
        return message.server == client.offer[0] and message.address == client.offer[1]
    return client.phase in (RENEWS, ASKS_ALL, COMES_BACK) and message.address == client.lease[1]
