"""What the tests share: calls told by their names, a picture of a world, and how a refusal is looked at."""

import unittest

from partednodes import world as program
from partednodes.state import World

GREATEST = 4294967295

NAMES = ("start", "child", "link", "cut", "watch", "unwatch", "ends", "stop", "trap", "say",
         "deliver", "turns", "box", "process", "air", "break", "notice", "join", "wires")

# 1 and 4 on node 1, 2 and 5 on node 2, 3 and 6 on node 3.
SIX = [("start", node) for node in (1, 2, 3, 1, 2, 3)]


def flat(calls):
    """The list that is handed in for calls such as ("link", 1, 2)."""
    numbers = []
    for call in calls:
        numbers.append(NAMES.index(call[0]))
        numbers.extend(call[1:])
    return numbers


def parted(told):
    """What is given back, as one list for each call."""
    lists = []
    at = 0
    while at < len(told):
        behind = at + 1 + told[at]
        if behind > len(told):
            raise AssertionError(f"{told} ends within an answer")
        lists.append(told[at + 1:behind])
        at = behind
    return lists


def ask(calls):
    """The answers to these calls, one list for each."""
    return parted(program.answers(flat(calls)))


def last(calls):
    """The answer to the last of these calls."""
    return ask(calls)[-1]


def behind(before, *calls):
    """The answers to these calls alone, behind those before."""
    return ask(list(before) + list(calls))[len(before):]


def call_on(world, call):
    """The answer to one call on a world of the test's own."""
    return program.CALLS[NAMES.index(call[0])](world, *call[1:])


def world_behind(calls):
    """A world as it is behind these calls."""
    world = World()
    for call in calls:
        call_on(world, call)
    return world


def fill_air(world, count):
    """Put so many signals on their way that there are count; process 1 says them to itself."""
    while len(world.air) < count:
        world.send(1, 1, (0, 7))


def picture(value):
    """All that a world holds, in its order, as plain values that can be compared."""
    if isinstance(value, dict):
        return [(key, picture(value[key])) for key in value]
    if isinstance(value, (list, tuple)):
        return [picture(part) for part in value]
    if hasattr(value, "__dict__"):
        return picture(vars(value))
    return value


def living(node, traps=0, links=(), watches=(), watched_by=()):
    """What process answers of one who lives; links and the others as pairs."""
    told = [node, 1, 0, traps]
    for pairs in (links, watches, watched_by):
        told.append(len(pairs))
        for pair in pairs:
            told.extend(pair)
    return told


def ended(node, why, traps=0):
    """What process answers of one who has ended."""
    return [node, 0, why, traps, 0, 0, 0]


class Refusing(unittest.TestCase):

    def refused_on(self, world, call, number):
        with self.subTest(call=call, number=number):
            was = picture(world)
            self.assertEqual(call_on(world, call), [number])
            self.assertEqual(picture(world), was)

    def refused(self, before, call, number):
        self.refused_on(world_behind(before), call, number)
        with self.subTest(before=before, call=call):
            self.assertEqual(last(before + [call]), [number])

    def taken(self, before, call):
        with self.subTest(before=before, call=call):
            answer = last(before + [call])
            self.assertTrue(answer)
            self.assertGreaterEqual(min(answer), 0)
