"""The calls on a world, and the answers to a list of them."""

from partednodes.arrival import arrive
from partednodes.loss import join_nodes, notice_loss
from partednodes.process import HOLDS
from partednodes.signals import CUT, LINK, STOP, UNWATCH, WATCH, WORD
from partednodes.state import NO_CONNECTION, World, wire_between
from partednodes.telling import one_if, told_of_air, told_of_box, told_of_process, told_of_wires

# Refusals, but for FITS, which says that there is none.
FITS = 0
NO_SUCH = -1
NOT_SO_NOW = -4
NONE_ON_ITS_WAY = -5
TOO_MANY = -6
HAS_ENDED = -8

NODES = 3
MOST_PROCESSES = 12
MOST_SIGNALS = 200
MOST_TURNS = 1000
GREATEST_WHY = 99

# How a child is joined to its parent; with 0 it isn't.
LINKED = 1
WATCHED = 2


def is_node(number):
    return 1 <= number <= NODES


def process_refusal(world, p):
    if not world.has_process(p):
        return NO_SUCH
    if not world.process(p).lives:
        return HAS_ENDED
    return FITS


# Ended ones count too: their numbers aren't given again.
def room_refusal(world):
    if len(world.processes) >= MOST_PROCESSES:
        return TOO_MANY
    return FITS


def air_refusal(world):
    if len(world.air) >= MOST_SIGNALS:
        return TOO_MANY
    return FITS


# q may have ended: the sender can't know that.
def sending_refusal(world, p, q):
    if not world.has_process(q):
        return NO_SUCH
    refusal = process_refusal(world, p)
    if refusal != FITS:
        return refusal
    return air_refusal(world)


def joining_refusal(world, p, q):
    if p == q:
        return NO_SUCH
    return sending_refusal(world, p, q)


def child_refusal(world, p, how):
    if how > WATCHED:
        return NO_SUCH
    refusal = process_refusal(world, p)
    if refusal != FITS:
        return refusal
    return room_refusal(world)


def wire_refusal(a, b):
    if a == b or not is_node(a) or not is_node(b):
        return NO_SUCH
    return FITS


def start(world, node):
    if not is_node(node):
        return [NO_SUCH]
    refusal = room_refusal(world)
    if refusal != FITS:
        return [refusal]
    return [world.new_process(node)]


def child(world, p, how):
    refusal = child_refusal(world, p, how)
    if refusal != FITS:
        return [refusal]
    parent = world.process(p)
    q = world.new_process(parent.node)
    started = world.process(q)
    number = 0
    if how == LINKED:
        parent.links[q] = HOLDS
        started.links[p] = HOLDS
    elif how == WATCHED:
        number = world.new_number()
        parent.watches[number] = q
        started.watched_by[number] = p
    return [q, number]


def link(world, p, q):
    refusal = joining_refusal(world, p, q)
    if refusal != FITS:
        return [refusal]
    caller = world.process(p)
    if caller.link_holds(q):
        return [0]
    caller.links[q] = HOLDS
    world.send(p, q, (LINK,))
    return [1]


def cut(world, p, q):
    refusal = joining_refusal(world, p, q)
    if refusal != FITS:
        return [refusal]
    caller = world.process(p)
    if not caller.link_holds(q):
        return [0]
    number = world.new_number()
    caller.links[q] = number
    world.send(p, q, (CUT, number))
    return [1]


def watch(world, p, q):
    refusal = joining_refusal(world, p, q)
    if refusal != FITS:
        return [refusal]
    caller = world.process(p)
    number = world.new_number()
    caller.watches[number] = q
    world.send(p, q, (WATCH, number))
    return [number]


def unwatch(world, p, k):
    refusal = process_refusal(world, p)
    if refusal != FITS:
        return [refusal]
    caller = world.process(p)
    if k not in caller.watches:
        return [0]
    refusal = air_refusal(world)
    if refusal != FITS:
        return [refusal]
    q = caller.watches.pop(k)
    world.send(p, q, (UNWATCH, k))
    return [1]


def ends(world, p, why):
    if why > GREATEST_WHY:
        return [NO_SUCH]
    refusal = process_refusal(world, p)
    if refusal != FITS:
        return [refusal]
    world.end(p, why)
    return [0]


def stop(world, p, q, why):
    if why > GREATEST_WHY:
        return [NO_SUCH]
    refusal = sending_refusal(world, p, q)
    if refusal != FITS:
        return [refusal]
    world.send(p, q, (STOP, why))
    return [0]


def trap(world, p, yes):
    if yes > 1:
        return [NO_SUCH]
    refusal = process_refusal(world, p)
    if refusal != FITS:
        return [refusal]
    caller = world.process(p)
    before = caller.traps
    caller.traps = yes
    return [before]


def say(world, p, q, n):
    refusal = sending_refusal(world, p, q)
    if refusal != FITS:
        return [refusal]
    world.send(p, q, (WORD, n))
    return [0]


# None if there is none.
def place_of_first(world, p, q):
    for place, sent in enumerate(world.air):
        if sent[0] == p and sent[1] == q:
            return place
    return None


# Either may have ended: what is on its way arrives all the same.
def deliver(world, p, q):
    if not world.has_process(p) or not world.has_process(q):
        return [NO_SUCH]
    place = place_of_first(world, p, q)
    if place is None:
        return [NONE_ON_ITS_WAY]
    numbers = list(world.air[place][2])
    numbers.append(one_if(arrive(world, place)))
    return numbers


def turns(world, n):
    if n > MOST_TURNS:
        return [NO_SUCH]
    arrived = 0
    while arrived < n and len(world.air) > 0:
        arrive(world, 0)
        arrived += 1
    return [arrived]


def box(world, p):
    if not world.has_process(p):
        return [NO_SUCH]
    return told_of_box(world.process(p).box)


def process(world, p):
    if not world.has_process(p):
        return [NO_SUCH]
    return told_of_process(world.process(p))


def air(world):
    return told_of_air(world.air)


def break_wire(world, a, b):
    refusal = wire_refusal(a, b)
    if refusal != FITS:
        return [refusal]
    wire = wire_between(a, b)
    if world.broken[wire]:
        return [NOT_SO_NOW]
    world.broken[wire] = True
    return [0]


def notice(world, a, b):
    refusal = wire_refusal(a, b)
    if refusal != FITS:
        return [refusal]
    lost = world.connections[(a, b)]
    if lost == NO_CONNECTION or not world.broken[wire_between(a, b)]:
        return [NOT_SO_NOW]
    notice_loss(world, a, b)
    return [lost]


def join(world, a, b):
    refusal = wire_refusal(a, b)
    if refusal != FITS:
        return [refusal]
    return [join_nodes(world, a, b)]


def wires(world):
    return told_of_wires(world)


# A call's number is its place here; COUNTS tells in the same place how many numbers it takes.
CALLS = (
    start, child, link, cut, watch, unwatch, ends, stop, trap, say,
    deliver, turns, box, process, air, break_wire, notice, join, wires,
)
COUNTS = (1, 2, 2, 2, 2, 2, 2, 3, 2, 3, 2, 1, 1, 1, 0, 2, 2, 2, 0)


def answer(world, number, values):
    call = CALLS[number]
    if len(values) == 0:
        return call(world)
    if len(values) == 1:
        return call(world, values[0])
    if len(values) == 2:
        return call(world, values[0], values[1])
    return call(world, values[0], values[1], values[2])


def answers(calls):
    world = World()
    told = []
    at = 0
    while at < len(calls):
        behind = at + 1 + COUNTS[calls[at]]
        numbers = answer(world, calls[at], calls[at + 1:behind])
        told.append(len(numbers))
        told.extend(numbers)
        at = behind
    return told
