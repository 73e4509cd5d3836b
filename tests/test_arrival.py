"""What each signal does where it arrives, at one who lives and at one who has ended."""

import unittest

from asking import GREATEST, SIX, ask, behind, call_on, ended, last, living, world_behind

# To whom 1 sends, on its own node and by a connection, with the node that one stands on and the connection.
WAYS = ((4, 1, 0), (2, 2, 1))


def linked(q):
    """1 and q have links to each other that hold, and nothing is on its way."""
    return SIX + [("link", 1, q), ("deliver", 1, q)]


class Word(unittest.TestCase):

    def test_is_put_in_the_box(self):
        for q, node, connection in WAYS:
            for word in (0, 1, GREATEST):
                with self.subTest(q=q, word=word):
                    told = behind(SIX, ("say", 1, q, word), ("air",), ("deliver", 1, q), ("box", q), ("box", 1),
                                  ("process", q), ("air",))
                    self.assertEqual(told, [[0], [1, 1, q, 0, word, connection], [0, word, 1], [1, 0, 1, word], [0],
                                            living(node), [0]])

    def test_the_oldest_first_and_from_whom(self):
        calls = [("say", 1, 2, 7), ("say", 3, 2, 8), ("say", 2, 2, 9), ("say", 1, 2, 10), ("turns", 1000)]
        self.assertEqual(behind(SIX + calls, ("box", 2)), [[4, 0, 1, 7, 0, 3, 8, 0, 2, 9, 0, 1, 10]])

    def test_who_traps_ends_has_it_in_the_same_way(self):
        self.assertEqual(behind(SIX, ("trap", 2, 1), ("say", 1, 2, 7), ("turns", 1), ("box", 2))[-1], [1, 0, 1, 7])


class Link(unittest.TestCase):

    def test_where_there_is_none(self):
        for q, node, connection in WAYS:
            with self.subTest(q=q):
                told = behind(SIX, ("link", 1, q), ("process", q), ("deliver", 1, q), ("process", q), ("process", 1),
                              ("air",), ("box", q))
                self.assertEqual(told, [[1], living(node), [1, 1], living(node, links=((1, 0),)),
                                        living(1, links=((q, 0),)), [0], [0]])

    def test_where_there_is_one_that_holds(self):
        for q, node, connection in WAYS:
            with self.subTest(q=q):
                told = behind(SIX, ("link", 1, q), ("link", q, 1), ("deliver", 1, q), ("process", q),
                              ("deliver", q, 1), ("process", 1), ("air",))
                self.assertEqual(told[2:], [[1, 1], living(node, links=((1, 0),)), [1, 1],
                                            living(1, links=((q, 0),)), [0]])

    def test_where_there_is_one_that_is_being_cut(self):
        for q, node, connection in WAYS:
            with self.subTest(q=q):
                before = SIX + [("link", q, 1), ("cut", q, 1), ("link", 1, q)]
                told = behind(before, ("deliver", 1, q), ("process", q), ("turns", 1000), ("process", q),
                              ("process", 1), ("air",))
                self.assertEqual(told, [[1, 1], living(node, links=((1, 1),)), [3], living(node), living(1), [0]])

    def test_an_end_behind_it_goes_both_ways(self):
        for q, node, connection in WAYS:
            for p, other in ((1, q), (q, 1)):
                with self.subTest(p=p):
                    told = behind(linked(q), ("ends", p, 9), ("turns", 1000), ("process", other))
                    self.assertEqual(told[1:], [[1], ended(node if p == 1 else 1, 9)])


class Cut(unittest.TestCase):

    def test_where_there_is_a_link_that_holds(self):
        for q, node, connection in WAYS:
            with self.subTest(q=q):
                told = behind(linked(q), ("cut", 1, q), ("process", q), ("deliver", 1, q), ("process", q),
                              ("process", 1), ("air",), ("deliver", q, 1), ("process", 1), ("air",))
                self.assertEqual(told, [[1], living(node, links=((1, 0),)), [2, 1, 1], living(node),
                                        living(1, links=((q, 1),)), [1, q, 1, 3, 1, connection], [3, 1, 1],
                                        living(1), [0]])

    def test_where_there_is_one_that_is_being_cut(self):
        for q, node, connection in WAYS:
            with self.subTest(q=q):
                told = behind(linked(q), ("cut", 1, q), ("cut", q, 1), ("deliver", 1, q), ("process", q), ("air",))
                self.assertEqual(told, [[1], [1], [2, 1, 1], living(node, links=((1, 2),)),
                                        [2, q, 1, 2, 2, connection, q, 1, 3, 1, connection]])

    def test_both_cut_at_once(self):
        for q, node, connection in WAYS:
            with self.subTest(q=q):
                told = behind(linked(q), ("cut", 1, q), ("cut", q, 1), ("turns", 1000), ("process", 1), ("process", q))
                self.assertEqual(told[2:], [[4], living(1), living(node)])

    def test_where_there_is_none(self):
        for q, node, connection in WAYS:
            with self.subTest(q=q):
                world = world_behind(SIX)
                world.send(1, q, (2, 77))
                self.assertEqual(call_on(world, ("deliver", 1, q)), [2, 77, 1])
                self.assertEqual(call_on(world, ("process", q)), living(node))
                self.assertEqual(call_on(world, ("air",)), [1, q, 1, 3, 77, connection])

    def test_links_to_others_stay(self):
        before = linked(2) + [("link", 2, 3), ("link", 5, 2), ("turns", 2), ("cut", 1, 2), ("deliver", 1, 2)]
        self.assertEqual(behind(before, ("process", 2)), [living(2, links=((3, 0), (5, 0)))])

    def test_an_end_behind_it_is_not_told(self):
        for q, node, connection in WAYS:
            told = behind(linked(q), ("cut", 1, q), ("turns", 2), ("ends", 1, 9), ("ends", q, 9), ("air",))
            self.assertEqual(told[-1], [0])


class Heard(unittest.TestCase):

    def test_with_the_number_of_the_cut(self):
        for q, node, connection in WAYS:
            with self.subTest(q=q):
                told = behind(linked(q), ("watch", 1, 3), ("cut", 1, q), ("deliver", 1, q), ("deliver", q, 1),
                              ("process", 1))
                self.assertEqual(told[2:], [[2, 2, 1], [3, 2, 1], living(1, watches=((1, 3),))])

    def test_with_another_number(self):
        for q, node, connection in WAYS:
            with self.subTest(q=q):
                before = SIX + [("link", 1, q), ("cut", 1, q), ("link", 1, q), ("cut", 1, q)]
                before += [("deliver", 1, q)] * 4
                told = behind(before, ("deliver", q, 1), ("process", 1), ("deliver", q, 1), ("process", 1))
                self.assertEqual(told, [[3, 1, 1], living(1, links=((q, 2),)), [3, 2, 1], living(1)])

    def test_where_there_is_a_link_that_holds(self):
        for q, node, connection in WAYS:
            with self.subTest(q=q):
                before = SIX + [("link", 1, q), ("cut", 1, q), ("link", 1, q)] + [("deliver", 1, q)] * 3
                told = behind(before, ("deliver", q, 1), ("process", 1), ("process", q), ("air",))
                self.assertEqual(told, [[3, 1, 1], living(1, links=((q, 0),)), living(node, links=((1, 0),)), [0]])

    def test_where_there_is_none(self):
        for q, node, connection in WAYS:
            with self.subTest(q=q):
                world = world_behind(SIX)
                world.send(1, q, (3, 1))
                self.assertEqual(call_on(world, ("deliver", 1, q)), [3, 1, 1])
                self.assertEqual(call_on(world, ("process", q)), living(node))
                self.assertEqual(call_on(world, ("air",)), [0])

    def test_the_number_counts_only_from_whom_the_link_goes_to(self):
        world = world_behind(SIX + [("link", 4, 1), ("cut", 4, 1)])
        world.send(5, 4, (3, 1))
        self.assertEqual(call_on(world, ("deliver", 5, 4)), [3, 1, 1])
        self.assertEqual(call_on(world, ("process", 4)), living(1, links=((1, 1),)))


class Ended(unittest.TestCase):

    def test_where_the_link_holds(self):
        for q, node, connection in WAYS:
            for why in (1, 2, 3, 4, 5, 99):
                with self.subTest(q=q, why=why):
                    told = behind(linked(q), ("ends", 1, why), ("deliver", 1, q), ("process", q), ("box", q), ("air",))
                    self.assertEqual(told, [[0], [4, why, 1], ended(node, why), [0], [0]])

    def test_where_the_link_holds_with_why_0(self):
        for q, node, connection in WAYS:
            with self.subTest(q=q):
                told = behind(linked(q), ("ends", 1, 0), ("deliver", 1, q), ("process", q), ("box", q), ("air",))
                self.assertEqual(told, [[0], [4, 0, 1], living(node), [0], [0]])

    def test_where_the_link_holds_and_ends_are_trapped(self):
        for q, node, connection in WAYS:
            for why in (0, 1, 2, 3, 4, 5, 99):
                with self.subTest(q=q, why=why):
                    told = behind(linked(q), ("trap", q, 1), ("ends", 1, why), ("deliver", 1, q), ("process", q),
                                  ("box", q), ("air",))
                    self.assertEqual(told[2:], [[4, why, 1], living(node, traps=1), [1, 1, 1, why], [0]])

    def test_trapping_till_then_but_no_more(self):
        told = behind(linked(2), ("trap", 2, 1), ("ends", 1, 5), ("trap", 2, 0), ("turns", 1), ("process", 2))
        self.assertEqual(told[-1], ended(2, 5))

    def test_where_the_link_is_being_cut(self):
        for q, node, connection in WAYS:
            for traps in (0, 1):
                with self.subTest(q=q, traps=traps):
                    told = behind(linked(q), ("trap", q, traps), ("cut", q, 1), ("ends", 1, 5), ("deliver", 1, q),
                                  ("process", q), ("box", q))
                    self.assertEqual(told[3:], [[4, 5, 1], living(node, traps=traps), [0]])

    def test_where_there_is_none(self):
        for q, node, connection in WAYS:
            for traps in (0, 1):
                with self.subTest(q=q, traps=traps):
                    world = world_behind(SIX + [("trap", q, traps), ("link", q, 3)])
                    was = call_on(world, ("process", q))
                    world.send(1, q, (4, 5))
                    self.assertEqual(call_on(world, ("deliver", 1, q)), [4, 5, 1])
                    self.assertEqual(call_on(world, ("process", q)), was)
                    self.assertEqual(call_on(world, ("box", q)), [0])

    def test_only_the_first_of_two_where_they_came_back(self):
        before = SIX + [("trap", 1, 1), ("break", 1, 2), ("notice", 1, 2), ("link", 1, 2), ("cut", 1, 2),
                        ("link", 1, 2)]
        told = behind(before, ("air",), ("turns", 1000), ("box", 1), ("process", 1))
        self.assertEqual(told, [[3, 2, 1, 4, 4, 0, 2, 1, 3, 1, 0, 2, 1, 4, 4, 0], [3], [1, 1, 2, 4],
                                living(1, traps=1)])

    def test_a_row_of_linked_ones_ends_one_behind_another(self):
        before = SIX + [("link", 1, 2), ("link", 2, 3), ("link", 3, 4), ("turns", 3), ("ends", 1, 8)]
        told = behind(before, ("turns", 1), ("air",), ("turns", 1), ("air",), ("turns", 1), ("air",), ("process", 4))
        self.assertEqual(told, [[1], [1, 2, 3, 4, 8, 3], [1], [1, 3, 4, 4, 8, 2], [1], [0], ended(1, 8)])


class Stop(unittest.TestCase):

    def test_0_is_nothing_to_one_that_does_not_trap_ends(self):
        for q, node, connection in WAYS:
            told = behind(SIX, ("stop", 1, q, 0), ("deliver", 1, q), ("process", q), ("box", q), ("air",))
            self.assertEqual(told, [[0], [5, 0, 1], living(node), [0], [0]])

    def test_1_kills_whether_it_traps_or_not(self):
        for q, node, connection in WAYS:
            for traps in (0, 1):
                told = behind(SIX, ("trap", q, traps), ("stop", 1, q, 1), ("deliver", 1, q), ("process", q), ("box", q))
                self.assertEqual(told[1:], [[0], [5, 1, 1], ended(node, 2, traps=traps), [0]])

    def test_others_end_it(self):
        for q, node, connection in WAYS:
            for why in (2, 3, 4, 5, 99):
                told = behind(SIX, ("stop", 1, q, why), ("deliver", 1, q), ("process", q), ("box", q))
                self.assertEqual(told, [[0], [5, why, 1], ended(node, why), [0]])

    def test_one_that_traps_ends_is_told(self):
        for q, node, connection in WAYS:
            for why in (0, 2, 3, 4, 5, 99):
                told = behind(SIX, ("trap", q, 1), ("stop", 1, q, why), ("deliver", 1, q), ("process", q), ("box", q))
                self.assertEqual(told[1:], [[0], [5, why, 1], living(node, traps=1), [1, 3, 1, why]])

    def test_to_itself(self):
        told = behind(SIX, ("stop", 5, 5, 7), ("deliver", 5, 5), ("process", 5), ("box", 5))
        self.assertEqual(told, [[0], [5, 7, 1], ended(2, 7), [0]])
        told = behind(SIX, ("trap", 5, 1), ("stop", 5, 5, 7), ("deliver", 5, 5), ("process", 5), ("box", 5))
        self.assertEqual(told[1:], [[0], [5, 7, 1], living(2, traps=1), [1, 3, 5, 7]])

    def test_links_to_the_sender_play_no_part(self):
        told = behind(linked(2), ("trap", 2, 1), ("stop", 1, 2, 7), ("turns", 1), ("process", 2), ("box", 2))
        self.assertEqual(told[-2:], [living(2, traps=1, links=((1, 0),)), [1, 3, 1, 7]])

    def test_one_that_is_killed_sends_why_2(self):
        before = linked(2) + [("watch", 3, 2), ("turns", 1), ("watch", 2, 6), ("stop", 1, 2, 1), ("deliver", 1, 2)]
        self.assertEqual(behind(before, ("air",)), [[4, 2, 6, 6, 2, 3, 2, 1, 4, 2, 1, 2, 3, 8, 1, 2, 3,
                                                     2, 6, 7, 2, 3]])


class Watch(unittest.TestCase):

    def test_it_is_watched_then(self):
        for q, node, connection in WAYS:
            told = behind(SIX, ("watch", 1, q), ("process", 1), ("process", q), ("deliver", 1, q), ("process", 1),
                          ("process", q), ("air",))
            self.assertEqual(told, [[1], living(1, watches=((1, q),)), living(node), [6, 1, 1],
                                    living(1, watches=((1, q),)), living(node, watched_by=((1, 1),)), [0]])

    def test_in_the_order_in_which_they_came(self):
        before = SIX + [("watch", 1, 2), ("watch", 3, 2), ("watch", 1, 2), ("watch", 5, 2), ("deliver", 5, 2),
                        ("deliver", 3, 2), ("deliver", 1, 2), ("deliver", 1, 2)]
        self.assertEqual(behind(before, ("process", 2)), [living(2, watched_by=((4, 5), (2, 3), (1, 1), (3, 1)))])

    def test_watching_one_another(self):
        before = SIX + [("watch", 1, 2), ("watch", 2, 1), ("turns", 2)]
        self.assertEqual(behind(before, ("process", 1), ("process", 2)),
                         [living(1, watches=((1, 2),), watched_by=((2, 2),)),
                          living(2, watches=((2, 1),), watched_by=((1, 1),))])


class Unwatch(unittest.TestCase):

    def test_with_a_number_that_it_is_watched_by(self):
        for q, node, connection in WAYS:
            before = SIX + [("watch", 1, q), ("watch", 1, q), ("watch", 3, q), ("turns", 3), ("unwatch", 1, 2)]
            told = behind(before, ("process", q), ("deliver", 1, q), ("process", q), ("air",))
            self.assertEqual(told, [living(node, watched_by=((1, 1), (2, 1), (3, 3))), [7, 2, 1],
                                    living(node, watched_by=((1, 1), (3, 3))), [0]])

    def test_with_another(self):
        for q, node, connection in WAYS:
            world = world_behind(SIX + [("watch", 1, q), ("turns", 1)])
            for number in (0, 2, 50):
                world.send(1, q, (7, number))
                self.assertEqual(call_on(world, ("deliver", 1, q)), [7, number, 1])
                self.assertEqual(call_on(world, ("process", q)), living(node, watched_by=((1, 1),)))
                self.assertEqual(call_on(world, ("air",)), [0])

    def test_an_end_behind_it_is_not_told(self):
        before = SIX + [("watch", 1, 2), ("unwatch", 1, 1), ("turns", 2), ("ends", 2, 5)]
        self.assertEqual(behind(before, ("air",)), [[0]])

    def test_a_childs_watch(self):
        before = [("start", 3), ("child", 1, 2), ("unwatch", 1, 1), ("turns", 1)]
        self.assertEqual(behind(before, ("process", 2)), [living(3)])


class Gone(unittest.TestCase):

    def test_with_a_watch_that_it_has(self):
        for q, node, connection in WAYS:
            for traps in (0, 1):
                for why in (0, 1, 5, 99):
                    before = SIX + [("trap", 1, traps), ("watch", 1, q), ("turns", 1), ("ends", q, why)]
                    told = behind(before, ("process", 1), ("deliver", q, 1), ("process", 1), ("box", 1), ("air",))
                    self.assertEqual(told, [living(1, traps=traps, watches=((1, q),)), [8, 1, why, 1],
                                            living(1, traps=traps), [1, 2, 1, why], [0]])

    def test_with_one_that_it_has_had(self):
        for q, node, connection in WAYS:
            before = SIX + [("watch", 1, q), ("watch", 1, 3), ("turns", 2), ("ends", q, 5), ("unwatch", 1, 1)]
            told = behind(before, ("deliver", q, 1), ("process", 1), ("box", 1))
            self.assertEqual(told, [[8, 1, 5, 1], living(1, watches=((2, 3),)), [0]])

    def test_with_one_that_it_never_had(self):
        for q, node, connection in WAYS:
            world = world_behind(SIX + [("watch", q, 1), ("turns", 1)])
            world.send(1, q, (8, 2, 5))
            self.assertEqual(call_on(world, ("deliver", 1, q)), [8, 2, 5, 1])
            self.assertEqual(call_on(world, ("process", q)), living(node, watches=((1, 1),)))
            self.assertEqual(call_on(world, ("box", q)), [0])

    def test_each_of_several_is_told(self):
        before = SIX + [("watch", 1, 2), ("watch", 1, 3), ("watch", 1, 2), ("turns", 3), ("ends", 2, 5), ("turns", 1000)]
        self.assertEqual(behind(before, ("process", 1), ("box", 1)),
                         [living(1, watches=((2, 3),)), [2, 2, 1, 5, 2, 3, 5]])


class AtOneWhoHasEnded(unittest.TestCase):

    def test_what_comes_back_for_each_signal(self):
        back = {(1,): [4, 3], (2, 71): [3, 71], (6, 75): [8, 75, 3]}
        for q, node, connection in WAYS:
            for signal in ((0, 70), (1,), (2, 71), (3, 72), (4, 73), (5, 0), (5, 1), (5, 74), (6, 75), (7, 76),
                           (8, 77, 78)):
                for traps in (0, 1):
                    with self.subTest(q=q, signal=signal, traps=traps):
                        world = world_behind(SIX + [("trap", q, traps), ("ends", q, 9)])
                        world.send(1, q, signal)
                        self.assertEqual(call_on(world, ("deliver", 1, q)), [*signal, 1])
                        self.assertEqual(call_on(world, ("process", q)), ended(node, 9, traps=traps))
                        self.assertEqual(call_on(world, ("box", q)), [0])
                        air = [1, q, 1, *back[signal], connection] if signal in back else [0]
                        self.assertEqual(call_on(world, ("air",)), air)

    def test_a_link_is_felt_as_an_end_with_3(self):
        for q, node, connection in WAYS:
            before = SIX + [("ends", q, 0), ("link", 1, q), ("deliver", 1, q)]
            self.assertEqual(behind(before, ("deliver", q, 1), ("process", 1)), [[4, 3, 1], ended(1, 3)])
            self.assertEqual(behind(before, ("trap", 1, 1), ("deliver", q, 1), ("process", 1), ("box", 1))[1:],
                             [[4, 3, 1], living(1, traps=1), [1, 1, q, 3]])

    def test_a_cut_is_heard(self):
        for q, node, connection in WAYS:
            before = linked(q) + [("ends", q, 5), ("cut", 1, q), ("deliver", 1, q)]
            told = behind(before, ("deliver", q, 1), ("process", 1), ("deliver", q, 1), ("process", 1))
            self.assertEqual(told, [[4, 5, 1], living(1), [3, 1, 1], living(1)])

    def test_a_watch_is_told_with_3(self):
        for q, node, connection in WAYS:
            before = SIX + [("ends", q, 0), ("watch", 1, q), ("deliver", 1, q)]
            self.assertEqual(behind(before, ("deliver", q, 1), ("process", 1), ("box", 1)),
                             [[8, 1, 3, 1], living(1), [1, 2, 1, 3]])

    def test_to_itself(self):
        before = SIX + [("say", 1, 1, 5), ("stop", 1, 1, 6), ("say", 1, 1, 7), ("turns", 3)]
        self.assertEqual(behind(before, ("box", 1), ("process", 1), ("air",)), [[1, 0, 1, 5], ended(1, 6), [0]])

    def test_its_box_stays_as_it_was(self):
        before = SIX + [("say", 1, 2, 5), ("turns", 1), ("ends", 2, 6), ("say", 1, 2, 7), ("turns", 1)]
        self.assertEqual(behind(before, ("box", 2)), [[1, 0, 1, 5]])


class OnItsWay(unittest.TestCase):

    def test_of_two_from_the_same_to_the_same_the_first_arrives_first(self):
        before = SIX + [("say", 1, 2, 5), ("say", 4, 2, 6), ("say", 1, 2, 7), ("say", 1, 5, 8)]
        told = behind(before, ("deliver", 1, 5), ("deliver", 1, 2), ("air",), ("deliver", 1, 2), ("deliver", 4, 2),
                      ("box", 2))
        self.assertEqual(told, [[0, 8, 1], [0, 5, 1], [2, 4, 2, 0, 6, 1, 1, 2, 0, 7, 1], [0, 7, 1], [0, 6, 1],
                                [3, 0, 1, 5, 0, 1, 7, 0, 4, 6]])

    def test_turns_bring_what_was_sent_first_of_all(self):
        before = SIX + [("say", 3, 2, 5), ("say", 1, 2, 6), ("say", 5, 2, 7), ("say", 3, 2, 8)]
        told = behind(before, ("turns", 2), ("box", 2), ("air",), ("turns", 1), ("box", 2))
        self.assertEqual(told, [[2], [2, 0, 3, 5, 0, 1, 6], [2, 5, 2, 0, 7, 0, 3, 2, 0, 8, 3], [1],
                                [3, 0, 3, 5, 0, 1, 6, 0, 5, 7]])

    def test_turns_bring_what_is_sent_in_them_too(self):
        before = linked(2) + [("cut", 1, 2)]
        self.assertEqual(behind(before, ("turns", 2), ("process", 1)), [[2], living(1)])
        self.assertEqual(behind(before, ("turns", 1), ("process", 1)), [[1], living(1, links=((2, 1),))])

    def test_turns_count_what_does_not_count(self):
        before = SIX + [("say", 1, 2, 5), ("say", 1, 3, 6), ("say", 1, 2, 7), ("join", 1, 2)]
        self.assertEqual(behind(before, ("turns", 2), ("air",), ("turns", 5), ("box", 2), ("box", 3)),
                         [[2], [1, 1, 2, 0, 7, 1], [1], [0], [1, 0, 1, 6]])

    def test_what_one_sent_before_its_end_arrives(self):
        before = SIX + [("say", 1, 2, 5), ("ends", 1, 6), ("deliver", 1, 2)]
        self.assertEqual(last(before), [0, 5, 1])
        self.assertEqual(last(before + [("box", 2)]), [1, 0, 1, 5])

    def test_what_comes_back_keeps_its_place_among_what_the_other_sends(self):
        before = SIX + [("trap", 1, 1), ("break", 1, 2), ("notice", 1, 2), ("say", 4, 1, 1), ("link", 1, 2),
                        ("join", 1, 2), ("say", 2, 1, 5)]
        told = behind(before, ("air",), ("deliver", 2, 1), ("deliver", 2, 1), ("box", 1))
        self.assertEqual(told, [[3, 4, 1, 0, 1, 0, 2, 1, 4, 4, 0, 2, 1, 0, 5, 4], [4, 4, 1], [0, 5, 1],
                                [2, 1, 2, 4, 0, 2, 5]])


class OrderOfAnEnd(unittest.TestCase):

    # 2 is linked to 6, 4 and 1, watched by 3 and 1, and watches 6 and 1.
    BEFORE = SIX + [("link", 2, 6), ("link", 4, 2), ("link", 2, 1), ("turns", 3), ("watch", 1, 2), ("watch", 3, 2),
                    ("deliver", 3, 2), ("deliver", 1, 2), ("watch", 2, 6), ("watch", 2, 1), ("turns", 2)]

    def test_in_the_air(self):
        told = behind(self.BEFORE, ("air",), ("ends", 2, 9), ("air",), ("process", 2))
        self.assertEqual(told, [[0], [0], [7,
                                           2, 1, 4, 9, 1, 2, 4, 4, 9, 1, 2, 6, 4, 9, 3,
                                           2, 3, 8, 2, 9, 3, 2, 1, 8, 1, 9, 1,
                                           2, 6, 7, 3, 3, 2, 1, 7, 4, 1], ended(2, 9)])

    def test_in_what_arrives(self):
        told = behind(self.BEFORE, ("trap", 1, 1), ("ends", 2, 9), ("deliver", 2, 1), ("deliver", 2, 1), ("process", 1),
                      ("deliver", 2, 1), ("process", 1), ("box", 1), ("deliver", 2, 6), ("deliver", 2, 6),
                      ("deliver", 2, 3), ("deliver", 2, 4), ("air",))
        self.assertEqual(told[2:], [[4, 9, 1], [8, 1, 9, 1], living(1, traps=1, watched_by=((4, 2),)), [7, 4, 1],
                                    living(1, traps=1), [2, 1, 2, 9, 2, 1, 9], [4, 9, 1], [7, 3, 1], [8, 2, 9, 1],
                                    [4, 9, 1], [1, 6, 2, 8, 3, 9, 3]])

    def test_an_end_that_comes_is_told_in_the_same_order(self):
        told = behind(self.BEFORE, ("stop", 5, 2, 9), ("turns", 1), ("air",))
        self.assertEqual(told[2], behind(self.BEFORE, ("ends", 2, 9), ("air",))[1])


class Asking(unittest.TestCase):

    def test_what_is_asked_between_changes_nothing(self):
        calls = SIX + [("link", 1, 2), ("turns", 1), ("cut", 2, 1), ("watch", 1, 2), ("turns", 1), ("link", 1, 2),
                       ("turns", 9)]
        asking = [("box", 1), ("process", 1), ("air",), ("wires",)]
        mixed = []
        for call in calls:
            mixed += [call] + asking
        kept = [answer for call, answer in zip(mixed, ask(mixed)) if call not in asking]
        self.assertEqual(kept, ask(calls))


if __name__ == "__main__":
    unittest.main()
