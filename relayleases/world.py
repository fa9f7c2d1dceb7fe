"""The package's interface: a list of calls is played on one world, and all answers come in one list."""

from relayleases.calls import row_of
from relayleases.parts import World
from relayleases.ranges import are_granted

BEGIN = 0


def split_calls(calls):
    """Split the list into calls: tuples of a place and its numbers."""
    split = []
    at = 0
    while at < len(calls):
        numbers = calls[at + 2:at + 2 + calls[at + 1]]
        split.append((calls[at], numbers))
        # Behind the numbers stands how many lists there are, which is 0 for every call.
        at += len(numbers) + 3
    return split


def play(world, place, numbers):
    """Play one call; give back the world that there is afterwards, and the row answered."""
    if world is None and place != BEGIN:
        return (None, [-9])
    if not are_granted(world, place, numbers):
        return (world, [-1])
    if place == BEGIN:
        return (World(numbers[0], numbers[1], numbers[2]), [0])
    return (world, row_of(world, place, numbers))


def answers(calls):
    """Play all calls in order, from a beginning without a world."""
    world = None
    given = []
    for place, numbers in split_calls(calls):
        played = play(world, place, numbers)
        world = played[0]
        given.append(len(played[1]))
        given.extend(played[1])
    return given
