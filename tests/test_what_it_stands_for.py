"""What holds over the whole program, in many lists of calls that are drawn by lot, always the same ones.

When all has arrived and all losses are noticed, links go both ways and only join those who live, on nodes that are
joined; a loss is felt like an end; each watch is told once; behind a loss that was noticed nothing from before it
comes.
"""

import random
import unittest

from asking import ask, call_on, world_behind
from partednodes.state import World, wire_between

LISTS = 3000
PAIRS = ((1, 2), (2, 1), (1, 3), (3, 1), (2, 3), (3, 2))


def came_back_between(world, a, b):
    """Whether something is on its way that came back since there was no connection between a and b."""
    for p, q, signal, connection in world.air:
        if connection == 0 and {world.process(p).node, world.process(q).node} == {a, b}:
            return True
    return False


def drawn(lot, world):
    """A call that may fit in this world."""
    count = len(world.processes)
    p = lot.randint(1, count)
    q = lot.randint(1, count)
    name = lot.choice(("link", "link", "link", "cut", "cut", "watch", "unwatch", "say", "stop", "ends", "trap",
                       "deliver", "deliver", "deliver", "deliver", "break", "break", "notice", "notice", "join"))
    if name == "unwatch":
        return (name, p, lot.randint(1, max(1, world.last_number)))
    if name == "say":
        return (name, p, q, lot.randint(0, 9))
    if name == "stop":
        return (name, p, q, lot.choice((0, 0, 0, 1, 7)))
    if name == "ends":
        return (name, p, lot.choice((0, 8)) if lot.random() < 0.2 else 100)
    if name == "trap":
        return (name, p, 1)
    if name in ("break", "notice", "join"):
        return (name, *lot.choice(PAIRS))
    return (name, p, q)


def settle(world):
    """All arrives and all losses are noticed."""
    moving = True
    while moving:
        moving = call_on(world, ("turns", 1000)) != [0]
        for a, b in PAIRS:
            if call_on(world, ("notice", a, b))[0] > 0:
                moving = True


class Lot:
    """One list of calls, and what was seen on its way."""

    def __init__(self, test, seed):
        self.test = test
        self.world = World()
        self.calls = []
        # Whose each watch is that was begun and not taken back.
        self.watches = {}
        # Each node with each connection that it noticed to be lost.
        self.lost = set()
        lot = random.Random(seed)
        for node in lot.choice(((1, 2), (1, 2, 1), (1, 2, 3), (1, 2, 3, 1), (3, 2, 1, 3, 2))):
            self.ask(("start", node))
        while len(self.calls) < 60 and lot.random() < 0.98:
            self.ask(drawn(lot, self.world))

    def ask(self, call):
        world = self.world
        # What came back counts behind a join as well, so then a link may be left that goes one way: see README.
        if call[0] == "join" and came_back_between(world, call[1], call[2]):
            return
        if call[0] in ("notice", "join"):
            return self.part(call)
        if call[0] == "deliver":
            return self.bring(call)
        self.calls.append(call)
        answer = call_on(world, call)
        if call[0] == "watch" and answer[0] > 0:
            self.watches[answer[0]] = call[1]
        if call[0] == "unwatch" and answer == [1]:
            self.watches.pop(call[2])

    def bring(self, call):
        world = self.world
        first = [sent for sent in world.air if sent[:2] == call[1:]]
        self.calls.append(call)
        answer = call_on(world, call)
        if first:
            lost = (world.process(call[2]).node, first[0][3]) in self.lost
            self.test.assertEqual(answer, [*first[0][2], 0 if lost else 1], self.calls)

    def part(self, call):
        world = self.world
        sides = [(call[1], call[2])] if call[0] == "notice" else [(call[1], call[2]), (call[2], call[1])]
        before = {side: world.connections[side] for side in sides}
        felt = [self.to_be_felt(a, b) for a, b in sides]
        self.calls.append(call)
        if call_on(world, call)[0] < 0:
            return
        for side, notes in zip(sides, felt):
            if before[side] != 0:
                self.lost.add((side[0], before[side]))
                for p, (links, boxed) in notes.items():
                    self.is_felt(p, links, boxed)

    def to_be_felt(self, a, b):
        """For each process of a that has links to b which hold: to whom, and how many notes it has."""
        world = self.world
        felt = {}
        for p in range(1, len(world.processes) + 1):
            process = world.process(p)
            links = [q for q in sorted(process.links) if process.link_holds(q) and world.process(q).node == b]
            if process.node == a and links:
                felt[p] = (links, len(process.box))
        return felt

    def is_felt(self, p, links, boxed):
        process = self.world.process(p)
        if process.traps == 1:
            ends = [note for note in process.box[boxed:] if note[0] == 1]
            self.test.assertEqual(ends, [(1, q, 4) for q in links], self.calls)
        else:
            self.test.assertEqual((process.lives, process.why), (False, 4), self.calls)


class WhatItStandsFor(unittest.TestCase):

    @classmethod
    def setUpClass(cls):
        cls.lots = [Lot(cls(), seed) for seed in range(LISTS)]
        for lot in cls.lots:
            settle(lot.world)

    def joined(self, world, a, b):
        if a == b:
            return True
        connection = world.connections[(a, b)]
        return connection != 0 and connection == world.connections[(b, a)] and not world.broken[wire_between(a, b)]

    def test_the_lists_do_what_is_looked_at(self):
        worlds = [lot.world for lot in self.lots]
        self.assertTrue(any(process.links for world in worlds for process in world.processes))
        self.assertTrue(any(process.watches for world in worlds for process in world.processes))
        for note in ((1, 4), (2, 4), (1, 3), (2, 3), (2, 8)):
            self.assertTrue(any((told[0], told[2]) == note for world in worlds for process in world.processes
                                for told in process.box), note)
        self.assertTrue(any(lot.lost for lot in self.lots))

    def test_links_go_both_ways_and_join_those_who_live_on_nodes_that_are_joined(self):
        for lot in self.lots:
            world = lot.world
            for p, process in enumerate(world.processes, start=1):
                for q in process.links:
                    other = world.process(q)
                    self.assertTrue(process.link_holds(q) and other.link_holds(p), lot.calls)
                    self.assertTrue(process.lives and other.lives, lot.calls)
                    self.assertTrue(self.joined(world, process.node, other.node), lot.calls)

    def test_each_watch_is_told_once(self):
        for lot in self.lots:
            world = lot.world
            for p, process in enumerate(world.processes, start=1):
                told = [note[1] for note in process.box if note[0] == 2]
                self.assertEqual(len(told), len(set(told)), lot.calls)
                if process.lives:
                    begun = [number for number in lot.watches if lot.watches[number] == p]
                    self.assertEqual([number for number in begun if number not in told], list(process.watches),
                                     lot.calls)

    def test_a_watch_that_is_not_told_is_of_one_who_lives_and_knows_it(self):
        for lot in self.lots:
            world = lot.world
            for p, process in enumerate(world.processes, start=1):
                for number, q in process.watches.items():
                    other = world.process(q)
                    self.assertTrue(other.lives and self.joined(world, process.node, other.node), lot.calls)
                    self.assertEqual(other.watched_by.get(number), p, lot.calls)
                for number, q in process.watched_by.items():
                    self.assertEqual(world.process(q).watches.get(number), p, lot.calls)

    def test_a_list_answers_what_the_world_answers_call_by_call(self):
        for lot in self.lots[:300]:
            asked = lot.calls + [("air",), ("wires",), ("process", 1), ("box", 1), ("process", 2), ("box", 2)]
            world = World()
            self.assertEqual(ask(asked), [call_on(world, call) for call in asked])


class BothSidesOfALoss(unittest.TestCase):

    def test_one_side_sooner_and_the_other_later(self):
        before = [("start", 1), ("start", 2), ("trap", 1, 1), ("trap", 2, 1), ("link", 1, 2), ("turns", 1),
                  ("break", 1, 2), ("notice", 1, 2), ("link", 1, 2), ("say", 2, 1, 5)]
        world = world_behind(before)
        settle(world)
        self.assertEqual([process.box for process in world.processes], [[(1, 2, 4), (1, 2, 4)], [(1, 1, 4)]])
        self.assertEqual([process.links for process in world.processes], [{}, {}])


if __name__ == "__main__":
    unittest.main()
