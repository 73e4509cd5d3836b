"""How a signal arrives: whether it counts, and what it does at the one it was sent to."""

from partednodes.process import END_WAS_SENT, HOLDS, LINKED_ONE_ENDED, WATCHED_ONE_ENDED, WORD_CAME
from partednodes.signals import HEARD, KILLED, NOBODY_THERE, TO_BE_KILLED, comes_back
from partednodes.state import WITHIN_A_NODE


def word_arrives(world, p, q, signal):
    receiver = world.process(q)
    receiver.box.append((WORD_CAME, p, signal[1]))


# A link that is being cut stays so: q's own cut is still on its way to p, and ends p's link as well.
def link_arrives(world, p, q, signal):
    receiver = world.process(q)
    if p not in receiver.links:
        receiver.links[p] = HOLDS


def cut_arrives(world, p, q, signal):
    receiver = world.process(q)
    if receiver.link_holds(p):
        receiver.links.pop(p)
    world.send(q, p, (HEARD, signal[1]))


# Numbers of cuts are never HOLDS, so a link that was made anew since then stays.
def heard_arrives(world, p, q, signal):
    receiver = world.process(q)
    if receiver.links.get(p) == signal[1]:
        receiver.links.pop(p)


def ended_arrives(world, p, q, signal):
    receiver = world.process(q)
    if p not in receiver.links:
        return
    held = receiver.link_holds(p)
    # Gone ahead of the end that comes: q, should it end, sends p nothing.
    receiver.links.pop(p)
    if held:
        world.end_comes(q, signal[1], (LINKED_ONE_ENDED, p, signal[1]))


def stop_arrives(world, p, q, signal):
    if signal[1] == TO_BE_KILLED:
        world.end(q, KILLED)
    else:
        world.end_comes(q, signal[1], (END_WAS_SENT, p, signal[1]))


def watch_arrives(world, p, q, signal):
    receiver = world.process(q)
    receiver.watched_by[signal[1]] = p


def unwatch_arrives(world, p, q, signal):
    receiver = world.process(q)
    receiver.watched_by.pop(signal[1], None)


def gone_arrives(world, p, q, signal):
    receiver = world.process(q)
    if signal[1] in receiver.watches:
        receiver.watches.pop(signal[1])
        receiver.box.append((WATCHED_ONE_ENDED, signal[1], signal[2]))


# A signal's number is its place here.
AT_ONE_WHO_LIVES = (
    word_arrives, link_arrives, cut_arrives, heard_arrives, ended_arrives, stop_arrives, watch_arrives,
    unwatch_arrives, gone_arrives,
)


def arrives_at_ended(world, p, q, signal):
    back = comes_back(signal, NOBODY_THERE)
    if back is not None:
        world.send(q, p, back)


# Also what came back in the name of one on another node is within a node, and counts always.
def counts(world, p, q, connection):
    if connection == WITHIN_A_NODE:
        return True
    here = world.process(q).node
    there = world.process(p).node
    return world.connections[(here, there)] == connection


# Takes what lies in this place of the air; says whether it counts.
def arrive(world, place):
    sent = world.air.pop(place)
    p = sent[0]
    q = sent[1]
    signal = sent[2]
    if not counts(world, p, q, sent[3]):
        return False
    if world.process(q).lives:
        does = AT_ONE_WHO_LIVES[signal[0]]
        does(world, p, q, signal)
    else:
        arrives_at_ended(world, p, q, signal)
    return True
