"""What the tests share: calls told by their names, and a picture of a world."""

from partednodes import world as program
from partednodes.state import World

GREATEST = 4294967295

NAMES = ("start", "child", "link", "cut", "watch", "unwatch", "ends", "stop", "trap", "say")


def flat(calls):
    """The list that is handed in for calls such as ("link", 1, 2)."""
    numbers = []
    for call in calls:
        numbers.append(NAMES.index(call[0]))
        numbers.extend(call[1:])
    return numbers


def parted(told):
    """What is given back, as one list for each call."""
    lists = []
    at = 0
    while at < len(told):
        behind = at + 1 + told[at]
        if behind > len(told):
            raise AssertionError(f"{told} ends within an answer")
        lists.append(told[at + 1:behind])
        at = behind
    return lists


def ask(calls):
    """The answers to these calls, one list for each."""
    return parted(program.answers(flat(calls)))


def last(calls):
    """The answer to the last of these calls."""
    return ask(calls)[-1]


def call_on(world, call):
    """The answer to one call on a world of the test's own."""
    return program.CALLS[NAMES.index(call[0])](world, *call[1:])


def world_behind(calls):
    """A world as it is behind these calls."""
    world = World()
    for call in calls:
        call_on(world, call)
    return world


def fill_air(world, count):
    """Put so many signals on their way that there are count; process 1 says them to itself."""
    while len(world.air) < count:
        world.send(1, 1, (0, 7))


def picture(value):
    """All that a world holds, in its order, as plain values that can be compared."""
    if isinstance(value, dict):
        return [(key, picture(value[key])) for key in value]
    if isinstance(value, (list, tuple)):
        return [picture(part) for part in value]
    if hasattr(value, "__dict__"):
        return picture(vars(value))
    return value
