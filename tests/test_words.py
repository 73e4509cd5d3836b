"""The words: wires at first, how a signal is sent, and what is sent when a process ends."""

import unittest

from asking import SIX, call_on, world_behind

SIGNALS = ((0, 70), (1,), (2, 71), (3, 72), (4, 73), (5, 74), (6, 75), (7, 76), (8, 77, 78))
BACK = {(1,): (4, 4), (2, 71): (3, 71), (6, 75): (8, 75, 4)}


class AtFirst(unittest.TestCase):

    def test_no_wire_is_broken_and_both_have_the_same(self):
        world = world_behind([])
        self.assertEqual(world.connections, {(1, 2): 1, (2, 1): 1, (1, 3): 2, (3, 1): 2, (2, 3): 3, (3, 2): 3})
        self.assertEqual(world.broken, {(1, 2): False, (1, 3): False, (2, 3): False})
        self.assertEqual((world.processes, world.air), ([], []))


class Sending(unittest.TestCase):

    def sent(self, world, p, q, signal):
        already = len(world.air)
        world.send(p, q, signal)
        return world.air[already:]

    def test_within_a_node_and_to_itself(self):
        world = world_behind(SIX)
        for signal in SIGNALS:
            with self.subTest(signal=signal):
                self.assertEqual(self.sent(world, 1, 4, signal), [(1, 4, signal, 0)])
                self.assertEqual(self.sent(world, 6, 3, signal), [(6, 3, signal, 0)])
                self.assertEqual(self.sent(world, 2, 2, signal), [(2, 2, signal, 0)])

    def test_by_each_connection(self):
        world = world_behind(SIX)
        for p, q, connection in ((1, 2, 1), (2, 1, 1), (1, 3, 2), (3, 1, 2), (2, 3, 3), (3, 2, 3), (4, 5, 1),
                                 (6, 5, 3)):
            for signal in SIGNALS:
                with self.subTest(p=p, q=q, signal=signal):
                    self.assertEqual(self.sent(world, p, q, signal), [(p, q, signal, connection)])

    def test_by_the_connection_of_the_senders_node(self):
        world = world_behind(SIX)
        world.connections[(1, 2)] = 8
        world.connections[(2, 1)] = 9
        self.assertEqual(self.sent(world, 1, 2, (1,)), [(1, 2, (1,), 8)])
        self.assertEqual(self.sent(world, 2, 1, (1,)), [(2, 1, (1,), 9)])

    def test_lost_where_the_wire_is_broken(self):
        for nodes, pairs in (((1, 2), ((1, 2), (2, 1))), ((1, 3), ((1, 3), (3, 1))), ((2, 3), ((2, 3), (3, 2)))):
            world = world_behind(SIX)
            world.broken[nodes] = True
            for p, q in pairs:
                for signal in SIGNALS:
                    with self.subTest(p=p, q=q, signal=signal):
                        self.assertEqual(self.sent(world, p, q, signal), [])

    def test_a_broken_wire_leaves_the_others_and_the_nodes_themselves(self):
        world = world_behind(SIX)
        world.broken[(1, 2)] = True
        self.assertEqual(self.sent(world, 1, 3, (1,)), [(1, 3, (1,), 2)])
        self.assertEqual(self.sent(world, 2, 3, (1,)), [(2, 3, (1,), 3)])
        self.assertEqual(self.sent(world, 1, 4, (1,)), [(1, 4, (1,), 0)])

    def test_what_comes_back_where_there_is_no_connection(self):
        for broken in (False, True):
            world = world_behind(SIX)
            world.connections[(1, 2)] = 0
            world.broken[(1, 2)] = broken
            for signal in SIGNALS:
                with self.subTest(signal=signal, broken=broken):
                    back = [(2, 1, BACK[signal], 0)] if signal in BACK else []
                    self.assertEqual(self.sent(world, 1, 2, signal), back)

    def test_the_other_side_may_have_its_connection_still(self):
        world = world_behind(SIX)
        world.connections[(1, 2)] = 0
        self.assertEqual(self.sent(world, 2, 1, (1,)), [(2, 1, (1,), 1)])
        self.assertEqual(self.sent(world, 1, 3, (1,)), [(1, 3, (1,), 2)])
        self.assertEqual(self.sent(world, 1, 4, (1,)), [(1, 4, (1,), 0)])

    def test_calls_where_there_is_no_connection(self):
        world = world_behind(SIX + [("link", 1, 3)])
        world.connections[(1, 3)] = 0
        already = len(world.air)
        calls = (("cut", 1, 3), ("link", 1, 3), ("watch", 1, 3), ("unwatch", 1, 2), ("stop", 1, 3, 5), ("say", 1, 3, 5))
        self.assertEqual([call_on(world, call) for call in calls], [[1], [1], [2], [1], [0], [0]])
        self.assertEqual(world.air[already:], [(3, 1, (3, 1), 0), (3, 1, (4, 4), 0), (3, 1, (8, 2, 4), 0)])
        self.assertEqual((world.process(1).links, world.process(1).watches), ({3: 0}, {}))

    def test_calls_where_the_wire_is_broken(self):
        world = world_behind(SIX)
        world.broken[(1, 3)] = True
        calls = (("link", 1, 3), ("cut", 1, 3), ("watch", 1, 3), ("unwatch", 1, 2), ("stop", 1, 3, 5), ("say", 1, 3, 5))
        self.assertEqual([call_on(world, call) for call in calls], [[1], [1], [2], [1], [0], [0]])
        self.assertEqual(world.air, [])


class Ending(unittest.TestCase):

    def test_linked_ones_by_number_but_not_those_being_cut(self):
        world = world_behind(SIX + [("link", 3, 6), ("link", 3, 2), ("link", 3, 4), ("link", 3, 1), ("cut", 3, 4)])
        already = len(world.air)
        call_on(world, ("ends", 3, 17))
        self.assertEqual(world.air[already:], [(3, 1, (4, 17), 2), (3, 2, (4, 17), 3), (3, 6, (4, 17), 0)])

    def test_a_link_of_the_other_alone_is_not_told(self):
        world = world_behind(SIX + [("link", 1, 2)])
        already = len(world.air)
        call_on(world, ("ends", 2, 17))
        self.assertEqual(world.air[already:], [])

    def test_watchers_in_the_order_in_which_they_came(self):
        world = world_behind(SIX)
        for number, whose in ((30, 2), (10, 3), (20, 1), (5, 2)):
            world.process(4).watched_by[number] = whose
        call_on(world, ("ends", 4, 0))
        self.assertEqual(world.air, [(4, 2, (8, 30, 0), 1), (4, 3, (8, 10, 0), 2), (4, 1, (8, 20, 0), 0),
                                     (4, 2, (8, 5, 0), 1)])

    def test_those_whom_it_watches_in_the_order_in_which_it_began(self):
        world = world_behind(SIX + [("watch", 1, 6), ("watch", 1, 4), ("watch", 1, 2), ("watch", 1, 6),
                                    ("unwatch", 1, 2)])
        already = len(world.air)
        call_on(world, ("ends", 1, 5))
        self.assertEqual(world.air[already:], [(1, 6, (7, 1), 2), (1, 2, (7, 3), 1), (1, 6, (7, 4), 2)])

    def test_links_then_watchers_then_whom_it_watches(self):
        world = world_behind([("start", 1), ("child", 1, 2), ("watch", 2, 1), ("link", 2, 1), ("child", 2, 1)])
        already = len(world.air)
        call_on(world, ("ends", 2, 3))
        self.assertEqual(world.air[already:], [(2, 1, (4, 3), 0), (2, 3, (4, 3), 0), (2, 1, (8, 1, 3), 0),
                                               (2, 1, (7, 2), 0)])

    def test_it_has_nothing_then(self):
        world = world_behind([("start", 1), ("child", 1, 2), ("watch", 2, 1), ("link", 2, 1), ("ends", 2, 3)])
        ended = world.process(2)
        self.assertEqual((ended.links, ended.watches, ended.watched_by), ({}, {}, {}))
        self.assertEqual((ended.node, ended.lives, ended.why), (1, False, 3))
        self.assertEqual(world.process(1).watches, {1: 2})

    def test_across_lost_connections_and_broken_wires_nothing_is_told(self):
        world = world_behind(SIX + [("link", 1, 2), ("link", 1, 3), ("link", 1, 4), ("watch", 1, 2), ("watch", 1, 3)])
        world.connections[(1, 2)] = 0
        world.broken[(1, 3)] = True
        already = len(world.air)
        call_on(world, ("ends", 1, 3))
        self.assertEqual(world.air[already:], [(1, 4, (4, 3), 0)])


if __name__ == "__main__":
    unittest.main()
