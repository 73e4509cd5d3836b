"""The calls on a world, and the answers to a list of them."""

from partednodes.process import HOLDS
from partednodes.signals import CUT, LINK, STOP, UNWATCH, WATCH, WORD
from partednodes.state import World

# Refusals, but for FITS, which says that there is none.
FITS = 0
NO_SUCH = -1
TOO_MANY = -6
HAS_ENDED = -8

NODES = 3
MOST_PROCESSES = 12
MOST_SIGNALS = 200
GREATEST_WHY = 99

# How a child is joined to its parent; with 0 it isn't.
LINKED = 1
WATCHED = 2


def process_refusal(world, p):
    if not world.has_process(p):
        return NO_SUCH
    if not world.process(p).lives:
        return HAS_ENDED
    return FITS


# Ended ones count too: their numbers aren't given again.
def room_refusal(world):
    if len(world.processes) >= MOST_PROCESSES:
        return TOO_MANY
    return FITS


def air_refusal(world):
    if len(world.air) >= MOST_SIGNALS:
        return TOO_MANY
    return FITS


# q may have ended: the sender can't know that.
def sending_refusal(world, p, q):
    if not world.has_process(q):
        return NO_SUCH
    refusal = process_refusal(world, p)
    if refusal != FITS:
        return refusal
    return air_refusal(world)


def joining_refusal(world, p, q):
    if p == q:
        return NO_SUCH
    return sending_refusal(world, p, q)


def child_refusal(world, p, how):
    if how > WATCHED:
        return NO_SUCH
    refusal = process_refusal(world, p)
    if refusal != FITS:
        return refusal
    return room_refusal(world)


def start(world, node):
    if not 1 <= node <= NODES:
        return [NO_SUCH]
    refusal = room_refusal(world)
    if refusal != FITS:
        return [refusal]
    return [world.new_process(node)]


def child(world, p, how):
    refusal = child_refusal(world, p, how)
    if refusal != FITS:
        return [refusal]
    parent = world.process(p)
    q = world.new_process(parent.node)
    started = world.process(q)
    number = 0
    if how == LINKED:
        parent.links[q] = HOLDS
        started.links[p] = HOLDS
    elif how == WATCHED:
        number = world.new_number()
        parent.watches[number] = q
        started.watched_by[number] = p
    return [q, number]


def link(world, p, q):
    refusal = joining_refusal(world, p, q)
    if refusal != FITS:
        return [refusal]
    process = world.process(p)
    if process.link_holds(q):
        return [0]
    process.links[q] = HOLDS
    world.send(p, q, (LINK,))
    return [1]


def cut(world, p, q):
    refusal = joining_refusal(world, p, q)
    if refusal != FITS:
        return [refusal]
    process = world.process(p)
    if not process.link_holds(q):
        return [0]
    number = world.new_number()
    process.links[q] = number
    world.send(p, q, (CUT, number))
    return [1]


def watch(world, p, q):
    refusal = joining_refusal(world, p, q)
    if refusal != FITS:
        return [refusal]
    process = world.process(p)
    number = world.new_number()
    process.watches[number] = q
    world.send(p, q, (WATCH, number))
    return [number]


def unwatch(world, p, k):
    refusal = process_refusal(world, p)
    if refusal != FITS:
        return [refusal]
    process = world.process(p)
    if k not in process.watches:
        return [0]
    refusal = air_refusal(world)
    if refusal != FITS:
        return [refusal]
    q = process.watches.pop(k)
    world.send(p, q, (UNWATCH, k))
    return [1]


def ends(world, p, why):
    if why > GREATEST_WHY:
        return [NO_SUCH]
    refusal = process_refusal(world, p)
    if refusal != FITS:
        return [refusal]
    world.end(p, why)
    return [0]


def stop(world, p, q, why):
    if why > GREATEST_WHY:
        return [NO_SUCH]
    refusal = sending_refusal(world, p, q)
    if refusal != FITS:
        return [refusal]
    world.send(p, q, (STOP, why))
    return [0]


def trap(world, p, yes):
    if yes > 1:
        return [NO_SUCH]
    refusal = process_refusal(world, p)
    if refusal != FITS:
        return [refusal]
    process = world.process(p)
    before = process.traps
    process.traps = yes
    return [before]


def say(world, p, q, n):
    refusal = sending_refusal(world, p, q)
    if refusal != FITS:
        return [refusal]
    world.send(p, q, (WORD, n))
    return [0]


# A call's number is its place here; COUNTS tells in the same place how many numbers it takes.
CALLS = (start, child, link, cut, watch, unwatch, ends, stop, trap, say)
COUNTS = (1, 2, 2, 2, 2, 2, 2, 3, 2, 3)


def answer(world, number, values):
    call = CALLS[number]
    if len(values) == 1:
        return call(world, values[0])
    if len(values) == 2:
        return call(world, values[0], values[1])
    return call(world, values[0], values[1], values[2])


def answers(calls):
    world = World()
    told = []
    at = 0
    while at < len(calls):
        behind = at + 1 + COUNTS[calls[at]]
        numbers = answer(world, calls[at], calls[at + 1:behind])
        told.append(len(numbers))
        told.extend(numbers)
        at = behind
    return told
