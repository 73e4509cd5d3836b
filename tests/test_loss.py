"""How a node notices that a connection is lost, and how two nodes are joined."""

import unittest

from asking import SIX, ask, behind, ended, last, living, picture, world_behind

# 1, 4 and 7 on node 1, 2, 5, 8 and 9 on node 2, 3 and 6 on node 3.
NINE = SIX + [("start", 1), ("start", 2), ("start", 2)]


class Noticing(unittest.TestCase):

    def test_answers_and_wires(self):
        told = ask([("wires",), ("break", 1, 2), ("wires",), ("notice", 1, 2), ("wires",), ("break", 3, 2),
                    ("notice", 3, 2), ("wires",), ("notice", 2, 1), ("wires",)])
        self.assertEqual(told, [[1, 1, 0, 2, 2, 0, 3, 3, 0], [0], [1, 1, 1, 2, 2, 0, 3, 3, 0], [1],
                                [0, 1, 1, 2, 2, 0, 3, 3, 0], [0], [3], [0, 1, 1, 2, 2, 0, 3, 0, 1], [1],
                                [0, 0, 1, 2, 2, 0, 3, 0, 1]])

    def test_links_that_hold_and_links_that_are_being_cut(self):
        before = NINE + [("trap", 1, 1), ("link", 1, 8), ("link", 1, 5), ("link", 1, 3), ("link", 1, 2), ("link", 1, 9),
                         ("link", 1, 4), ("cut", 1, 5), ("turns", 7), ("break", 1, 2), ("notice", 1, 2)]
        told = behind(before, ("process", 1), ("box", 1))
        self.assertEqual(told, [living(1, traps=1, links=((3, 0), (4, 0))), [3, 1, 2, 4, 1, 8, 4, 1, 9, 4]])

    def test_links_that_are_being_cut_alone_bring_no_end(self):
        before = NINE + [("link", 1, 2), ("turns", 1), ("cut", 1, 2), ("break", 1, 2)]
        told = behind(before, ("notice", 1, 2), ("process", 1), ("box", 1), ("air",))
        self.assertEqual(told, [[1], living(1), [0], [1, 1, 2, 2, 1, 1]])

    def test_links_being_cut_to_others_stay(self):
        before = NINE + [("link", 1, 3), ("link", 1, 4), ("turns", 2), ("cut", 1, 3), ("cut", 1, 4), ("break", 1, 2),
                         ("notice", 1, 2)]
        self.assertEqual(behind(before, ("process", 1)), [living(1, links=((3, 1), (4, 2)))])

    def test_watches(self):
        before = NINE + [("watch", 1, 8), ("watch", 1, 3), ("watch", 1, 2), ("watch", 1, 4), ("watch", 1, 8),
                         ("unwatch", 1, 5), ("watch", 1, 2), ("turns", 1000), ("break", 1, 2), ("notice", 1, 2)]
        told = behind(before, ("process", 1), ("box", 1), ("process", 2), ("air",))
        self.assertEqual(told, [living(1, watches=((2, 3), (4, 4))), [3, 2, 1, 4, 2, 3, 4, 2, 6, 4],
                                living(2, watched_by=((3, 1), (6, 1))), [0]])

    def test_being_watched(self):
        before = NINE + [("watch", 2, 1), ("watch", 3, 1), ("watch", 5, 1), ("watch", 4, 1), ("watch", 2, 1),
                         ("turns", 5), ("break", 1, 2), ("notice", 1, 2)]
        told = behind(before, ("process", 1), ("box", 1), ("process", 2), ("ends", 1, 5), ("air",))
        self.assertEqual(told, [living(1, watched_by=((2, 3), (4, 4))), [0], living(2, watches=((1, 1), (5, 1))), [0],
                                [2, 1, 3, 8, 2, 5, 2, 1, 4, 8, 4, 5, 0]])

    def test_watches_are_told_ahead_of_links(self):
        before = NINE + [("trap", 1, 1), ("say", 4, 1, 6), ("link", 1, 2), ("watch", 1, 9), ("link", 1, 5),
                         ("watch", 1, 2), ("turns", 5), ("break", 1, 2), ("notice", 1, 2)]
        self.assertEqual(behind(before, ("box", 1)), [[5, 0, 4, 6, 2, 1, 4, 2, 2, 4, 1, 2, 4, 1, 5, 4]])

    def test_a_watch_is_told_also_to_one_that_ends_by_it(self):
        before = NINE + [("link", 1, 2), ("watch", 1, 5), ("turns", 2), ("break", 1, 2), ("notice", 1, 2)]
        self.assertEqual(behind(before, ("process", 1), ("box", 1)), [ended(1, 4), [1, 2, 1, 4]])

    def test_one_that_does_not_trap_ends_by_the_first_of_several_links(self):
        before = NINE + [("link", 1, 2), ("link", 1, 5), ("link", 1, 8), ("link", 1, 6), ("link", 1, 4), ("turns", 5),
                         ("break", 1, 2), ("notice", 1, 2)]
        told = behind(before, ("process", 1), ("box", 1), ("air",), ("process", 4), ("process", 6))
        self.assertEqual(told, [ended(1, 4), [0], [2, 1, 4, 4, 4, 0, 1, 6, 4, 4, 2], living(1, links=((1, 0),)),
                                living(3, links=((1, 0),))])

    def test_one_that_ends_by_it_tells_all_that_are_not_on_b(self):
        before = NINE + [("link", 1, 2), ("link", 1, 3), ("watch", 6, 1), ("watch", 2, 1), ("watch", 4, 1),
                         ("watch", 1, 2), ("watch", 1, 4), ("watch", 1, 3), ("turns", 1000), ("break", 1, 2),
                         ("notice", 1, 2)]
        told = behind(before, ("air",), ("process", 1), ("box", 1))
        self.assertEqual(told, [[5, 1, 3, 4, 4, 2, 1, 6, 8, 1, 4, 2, 1, 4, 8, 3, 4, 0, 1, 4, 7, 5, 0, 1, 3, 7, 6, 2],
                                ended(1, 4), [1, 2, 4, 4]])

    def test_each_process_by_number(self):
        before = NINE + [("link", 7, 2), ("link", 4, 5), ("link", 1, 8), ("link", 7, 3), ("link", 4, 3), ("link", 1, 3),
                         ("turns", 1000), ("break", 1, 2), ("notice", 1, 2)]
        self.assertEqual(behind(before, ("air",)), [[3, 1, 3, 4, 4, 2, 4, 3, 4, 4, 2, 7, 3, 4, 4, 2]])

    def test_an_end_in_between_arrives_only_later(self):
        before = NINE + [("trap", 4, 1), ("link", 1, 2), ("link", 1, 4), ("link", 4, 5), ("turns", 3), ("break", 1, 2),
                         ("notice", 1, 2)]
        told = behind(before, ("box", 4), ("process", 4), ("air",), ("turns", 1), ("box", 4), ("process", 4))
        self.assertEqual(told, [[1, 1, 5, 4], living(1, traps=1, links=((1, 0),)), [1, 1, 4, 4, 4, 0], [1],
                                [2, 1, 5, 4, 1, 1, 4], living(1, traps=1)])

    def test_ended_ones_are_passed_over(self):
        before = NINE + [("trap", 1, 1), ("link", 1, 2), ("watch", 1, 2), ("watch", 2, 1), ("turns", 3),
                         ("ends", 1, 6), ("break", 1, 2), ("notice", 1, 2)]
        told = behind(before, ("process", 1), ("box", 1))
        self.assertEqual(told, [ended(1, 6, traps=1), [0]])

    def test_processes_of_other_nodes_are_not_touched(self):
        calls = [("trap", 2, 1), ("trap", 3, 1), ("link", 1, 2), ("link", 1, 3), ("link", 2, 3), ("watch", 2, 1),
                 ("watch", 3, 1), ("watch", 3, 2), ("turns", 1000), ("break", 1, 2)]
        was = world_behind(NINE + calls)
        world = world_behind(NINE + calls + [("notice", 1, 2)])
        for p in (2, 3, 4, 5, 6, 7, 8, 9):
            with self.subTest(p=p):
                self.assertEqual(picture(world.process(p)), picture(was.process(p)))

    def test_the_other_side_alone(self):
        before = NINE + [("trap", 1, 1), ("trap", 2, 1), ("link", 1, 2), ("watch", 1, 2), ("watch", 2, 1), ("turns", 3),
                         ("break", 1, 2)]
        told = behind(before, ("notice", 2, 1), ("process", 1), ("box", 1), ("process", 2), ("box", 2))
        self.assertEqual(told, [[1], living(1, traps=1, links=((2, 0),), watches=((1, 2),), watched_by=((2, 2),)), [0],
                                living(2, traps=1), [2, 2, 2, 4, 1, 1, 4]])
        told = behind(before, ("notice", 2, 1), ("notice", 1, 2), ("process", 1), ("box", 1))
        self.assertEqual(told[1:], [[1], living(1, traps=1), [2, 2, 1, 4, 1, 2, 4]])

    def test_one_connection_of_a_node_leaves_its_other(self):
        before = NINE + [("trap", 1, 1), ("link", 1, 2), ("link", 1, 3), ("turns", 2), ("break", 1, 2), ("break", 1, 3)]
        told = behind(before, ("notice", 1, 3), ("process", 1), ("box", 1), ("wires",))
        self.assertEqual(told, [[2], living(1, traps=1, links=((2, 0),)), [1, 1, 3, 4], [1, 1, 1, 0, 2, 1, 3, 3, 0]])

    def test_what_is_lost_is_what_the_node_holds_then(self):
        before = NINE + [("trap", 1, 1), ("break", 1, 2), ("link", 1, 2), ("watch", 1, 5), ("link", 2, 1),
                         ("watch", 2, 1)]
        told = behind(before, ("air",), ("notice", 1, 2), ("process", 1), ("box", 1))
        self.assertEqual(told, [[0], [1], living(1, traps=1), [2, 2, 1, 4, 1, 2, 4]])

    def test_each_watch_is_told_once(self):
        before = NINE + [("watch", 1, 2), ("turns", 1), ("ends", 2, 5), ("break", 1, 2), ("notice", 1, 2)]
        told = behind(before, ("box", 1), ("deliver", 2, 1), ("join", 1, 2), ("turns", 1000), ("box", 1))
        self.assertEqual(told, [[1, 2, 1, 4], [8, 1, 5, 0], [4], [0], [1, 2, 1, 4]])
        told = behind(before[:-1], ("deliver", 2, 1), ("notice", 1, 2), ("box", 1))
        self.assertEqual(told, [[8, 1, 5, 1], [1], [1, 2, 1, 5]])


class Joining(unittest.TestCase):

    def test_answers_and_wires(self):
        told = ask([("join", 1, 3), ("wires",), ("break", 2, 3), ("join", 3, 2), ("wires",), ("join", 1, 2), ("wires",),
                    ("break", 1, 3), ("notice", 1, 3), ("notice", 3, 1), ("join", 1, 3), ("wires",)])
        self.assertEqual(told, [[4], [1, 1, 0, 4, 4, 0, 3, 3, 0], [0], [5], [1, 1, 0, 4, 4, 0, 5, 5, 0], [6],
                                [6, 6, 0, 4, 4, 0, 5, 5, 0], [0], [4], [4], [7], [6, 6, 0, 7, 7, 0, 5, 5, 0]])

    def test_the_numbers_are_their_own_row(self):
        told = behind(SIX, ("watch", 1, 2), ("join", 1, 2), ("watch", 1, 2), ("join", 2, 3), ("watch", 1, 2))
        self.assertEqual(told, [[1], [4], [2], [5], [3]])

    def linked(self):
        return SIX + [("link", 1, 2), ("link", 1, 4), ("link", 2, 5), ("link", 3, 6), ("turns", 4)]

    def test_with_both_connections_first_a_notices_then_b(self):
        self.assertEqual(behind(self.linked(), ("join", 1, 2), ("air",)),
                         [[4], [2, 1, 4, 4, 4, 0, 2, 5, 4, 4, 0]])
        self.assertEqual(behind(self.linked(), ("join", 2, 1), ("air",)),
                         [[4], [2, 2, 5, 4, 4, 0, 1, 4, 4, 4, 0]])

    def test_a_wire_that_is_not_broken_is_lost_too(self):
        before = SIX + [("trap", 1, 1), ("trap", 2, 1), ("link", 1, 2), ("watch", 1, 2), ("turns", 2), ("join", 1, 2)]
        self.assertEqual(behind(before, ("process", 1), ("process", 2), ("box", 1), ("box", 2)),
                         [living(1, traps=1), living(2, traps=1), [2, 2, 1, 4, 1, 2, 4], [1, 1, 1, 4]])

    def test_with_one_connection_only_that_side_notices(self):
        lost = self.linked() + [("break", 1, 2), ("notice", 1, 2), ("turns", 1000)]
        for a, b in ((1, 2), (2, 1)):
            told = behind(lost, ("process", 2), ("join", a, b), ("air",), ("process", 2), ("process", 1))
            self.assertEqual(told, [living(2, links=((1, 0), (5, 0))), [4], [1, 2, 5, 4, 4, 0], ended(2, 4),
                                    ended(1, 4)])

    def test_with_one_connection_the_other_side_keeps_what_it_did_since(self):
        lost = SIX + [("break", 1, 2), ("notice", 1, 2), ("link", 1, 2), ("watch", 1, 2)]
        for a, b in ((1, 2), (2, 1)):
            told = behind(lost, ("join", a, b), ("process", 1), ("box", 1))
            self.assertEqual(told, [[4], living(1, links=((2, 0),), watches=((1, 2),)), [0]])

    def test_with_none_nobody_notices(self):
        lost = self.linked() + [("break", 1, 2), ("notice", 1, 2), ("notice", 2, 1), ("turns", 1000), ("start", 1),
                                ("start", 2), ("link", 7, 8), ("watch", 8, 7)]
        told = behind(lost, ("air",), ("join", 2, 1), ("air",), ("process", 7), ("process", 8), ("box", 8))
        self.assertEqual(told, [[2, 8, 7, 4, 4, 0, 7, 8, 8, 1, 4, 0], [4], [2, 8, 7, 4, 4, 0, 7, 8, 8, 1, 4, 0],
                                living(1, links=((8, 0),)), living(2, watches=((1, 7),)), [0]])

    def test_what_is_sent_in_it_goes_by_the_other_wires(self):
        before = SIX + [("link", 2, 1), ("turns", 1), ("watch", 2, 3), ("turns", 1)]
        told = behind(before, ("join", 2, 1), ("air",), ("wires",))
        self.assertEqual(told, [[4], [1, 2, 3, 7, 1, 3], [4, 4, 0, 2, 2, 0, 3, 3, 0]])

    def test_other_wires_stay_as_they_are(self):
        before = SIX + [("trap", 3, 1), ("link", 3, 1), ("link", 3, 2), ("turns", 2), ("break", 1, 3)]
        told = behind(before, ("join", 1, 2), ("process", 3), ("box", 3), ("wires",))
        self.assertEqual(told, [[4], living(3, traps=1, links=((1, 0), (2, 0))), [0], [4, 4, 0, 2, 2, 1, 3, 3, 0]])

    def test_joined_again_and_again(self):
        before = SIX + [("trap", 1, 1)]
        calls = []
        for k in range(10):
            calls += [("link", 1, 2), ("join", 1, 2)]
        told = behind(before + calls, ("box", 1), ("process", 1), ("turns", 1000), ("process", 2))
        self.assertEqual(told, [[10] + [1, 2, 4] * 10, living(1, traps=1), [10], living(2)])
        self.assertEqual(last(before + calls), [13])


if __name__ == "__main__":
    unittest.main()
