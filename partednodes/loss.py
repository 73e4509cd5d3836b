"""How a node notices that a connection is lost, and how two nodes are joined."""

from partednodes.process import LINKED_ONE_ENDED, WATCHED_ONE_ENDED
from partednodes.signals import CONNECTION_LOST
from partednodes.state import NO_CONNECTION, wire_between


# joined tells for each number whom it is of.
def numbers_of_those_on(world, joined, node):
    return [number for number, q in joined.items() if world.process(q).node == node]


def lose_watched_by(world, p, node):
    process = world.process(p)
    lost = numbers_of_those_on(world, process.watched_by, node)
    for number in lost:
        process.watched_by.pop(number)


def lose_watches(world, p, node):
    process = world.process(p)
    lost = numbers_of_those_on(world, process.watches, node)
    for number in lost:
        process.watches.pop(number)
        process.box.append((WATCHED_ONE_ENDED, number, CONNECTION_LOST))


# All are gone before the first end comes: one that ends by it sends nothing to those behind the loss.
def lose_links(world, p, node):
    process = world.process(p)
    lost = [q for q in sorted(process.links) if world.process(q).node == node]
    held = [q for q in lost if process.link_holds(q)]
    for q in lost:
        process.links.pop(q)
    for q in held:
        if process.lives:
            world.end_comes(p, CONNECTION_LOST, (LINKED_ONE_ENDED, q, CONNECTION_LOST))


def notice_loss(world, a, b):
    world.connections[(a, b)] = NO_CONNECTION
    for p in range(1, len(world.processes) + 1):
        process = world.process(p)
        if process.node == a and process.lives:
            lose_watched_by(world, p, b)
            lose_watches(world, p, b)
            # Last, since an end may come of it, and that must find all else gone.
            lose_links(world, p, b)


def join_nodes(world, a, b):
    wire = wire_between(a, b)
    world.broken[wire] = True
    if world.connections[(a, b)] != NO_CONNECTION:
        notice_loss(world, a, b)
    if world.connections[(b, a)] != NO_CONNECTION:
        notice_loss(world, b, a)
    world.broken[wire] = False
    connection = world.new_connection()
    world.connections[(a, b)] = connection
    world.connections[(b, a)] = connection
    return connection
