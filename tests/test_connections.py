"""When a signal that comes by a connection counts, and what becomes of those that don't."""

import unittest

from asking import SIX, behind, call_on, ended, last, living, picture, world_behind

SIGNALS = ((0, 70), (1,), (2, 71), (3, 72), (4, 73), (5, 0), (5, 1), (5, 74), (6, 75), (7, 76), (8, 77, 78))

# What each signal does at 2, so that one that counts can be told from one that doesn't.
READY = SIX + [("trap", 2, 1), ("link", 2, 1), ("watch", 1, 2), ("watch", 2, 1), ("turns", 1000)]
READY_SIGNALS = ((0, 70), (2, 71), (4, 73), (5, 0), (5, 1), (5, 74), (6, 75), (7, 1), (8, 2, 78))

# What was sent by connection 1 isn't taken by node 2 any more behind each of these.
PARTED = (
    [("break", 1, 2), ("notice", 2, 1)],
    [("break", 1, 2), ("notice", 1, 2), ("notice", 2, 1)],
    [("join", 1, 2)],
    [("join", 2, 1)],
    [("break", 1, 2), ("join", 1, 2)],
    [("break", 1, 2), ("notice", 2, 1), ("join", 1, 2)],
    [("break", 1, 2), ("notice", 1, 2), ("join", 2, 1)],
    [("join", 1, 2), ("join", 1, 2)],
)

# And behind each of these it is still.
NOT_PARTED = (
    [],
    [("break", 1, 2)],
    [("break", 1, 2), ("notice", 1, 2)],
    [("join", 1, 3), ("join", 2, 3)],
    [("break", 1, 3), ("break", 2, 3), ("notice", 2, 3), ("notice", 1, 3)],
)


class Counting(unittest.TestCase):

    def delivered(self, before, signal, between, changes):
        """What deliver answers of a signal from 1 to 2 between whose sending and arriving there are calls."""
        world = world_behind(before)
        world.send(1, 2, signal)
        for call in between:
            call_on(world, call)
        was = picture(world.processes)
        already = len(world.air)
        told = call_on(world, ("deliver", 1, 2))
        self.assertEqual((picture(world.processes) != was, len(world.air) - already + 1 > 0), changes)
        return told

    def test_none_does_anything_behind_a_loss(self):
        for between in PARTED:
            for signal in SIGNALS:
                for before in (SIX, SIX + [("ends", 2, 9)], SIX + [("ends", 1, 9)]):
                    with self.subTest(between=between, signal=signal, before=before):
                        self.assertEqual(self.delivered(before, signal, between, (False, False)), [*signal, 0])

    def test_each_does_what_it_does_where_there_is_no_loss(self):
        for between in NOT_PARTED:
            for signal in READY_SIGNALS:
                with self.subTest(between=between, signal=signal):
                    sends = not (("break", 1, 2) in between) and (signal[0] == 2 or signal == (5, 1))
                    self.assertEqual(self.delivered(READY, signal, between, (True, sends)), [*signal, 1])

    def test_each_counts_at_one_who_has_ended_where_there_is_no_loss(self):
        for between in NOT_PARTED:
            for signal in SIGNALS:
                with self.subTest(between=between, signal=signal):
                    sends = not (("break", 1, 2) in between) and signal[0] in (1, 2, 6)
                    self.assertEqual(self.delivered(SIX + [("ends", 2, 9)], signal, between, (False, sends)),
                                     [*signal, 1])

    def test_it_is_the_node_it_comes_to_that_must_have_the_connection(self):
        before = SIX + [("say", 1, 2, 5), ("say", 2, 1, 6), ("break", 1, 2)]
        self.assertEqual(behind(before, ("notice", 1, 2), ("deliver", 1, 2), ("deliver", 2, 1), ("box", 1), ("box", 2)),
                         [[1], [0, 5, 1], [0, 6, 0], [0], [1, 0, 1, 5]])
        self.assertEqual(behind(before, ("notice", 2, 1), ("deliver", 1, 2), ("deliver", 2, 1), ("box", 1), ("box", 2)),
                         [[1], [0, 5, 0], [0, 6, 1], [1, 0, 2, 6], [0]])

    def test_within_a_node_always(self):
        before = SIX + [("say", 1, 4, 5), ("say", 2, 2, 6), ("join", 1, 2), ("break", 1, 2), ("notice", 1, 2)]
        self.assertEqual(behind(before, ("deliver", 1, 4), ("deliver", 2, 2)), [[0, 5, 1], [0, 6, 1]])

    def test_by_each_wire(self):
        for p, q in ((1, 2), (2, 1), (1, 3), (3, 1), (2, 3), (3, 2)):
            with self.subTest(p=p, q=q):
                before = SIX + [("say", p, q, 5), ("join", p, q), ("say", p, q, 6)]
                self.assertEqual(behind(before, ("deliver", p, q), ("deliver", p, q), ("box", q)),
                                 [[0, 5, 0], [0, 6, 1], [1, 0, p, 6]])

    def test_only_the_last_of_several_connections(self):
        before = SIX
        for word in (5, 6, 7, 8):
            before = before + [("say", 1, 2, word), ("join", 1, 2)]
        before = before + [("say", 1, 2, 9)]
        self.assertEqual(behind(before, ("air",), *[("deliver", 1, 2)] * 5, ("box", 2)),
                         [[5, 1, 2, 0, 5, 1, 1, 2, 0, 6, 4, 1, 2, 0, 7, 5, 1, 2, 0, 8, 6, 1, 2, 0, 9, 7],
                          [0, 5, 0], [0, 6, 0], [0, 7, 0], [0, 8, 0], [0, 9, 1], [1, 0, 1, 9]])


class BrokenWire(unittest.TestCase):

    def test_what_was_on_it_still_comes(self):
        before = SIX + [("say", 1, 2, 5), ("break", 1, 2), ("say", 1, 2, 6), ("say", 2, 1, 7)]
        self.assertEqual(behind(before, ("air",), ("deliver", 1, 2), ("box", 2), ("box", 1)),
                         [[1, 1, 2, 0, 5, 1], [0, 5, 1], [1, 0, 1, 5], [0]])

    def test_what_is_answered_over_it_is_lost(self):
        for calls, processes in (
                ([("link", 1, 2), ("ends", 2, 9)], [living(1, links=((2, 0),)), ended(2, 9)]),
                ([("watch", 1, 2), ("ends", 2, 9)], [living(1, watches=((1, 2),)), ended(2, 9)]),
                ([("link", 1, 2), ("cut", 1, 2)], [living(1, links=((2, 1),)), living(2)])):
            with self.subTest(calls=calls):
                told = behind(SIX + calls + [("break", 1, 2)], ("turns", 1000), ("air",), ("process", 1),
                              ("process", 2))
                self.assertEqual(told[1:], [[0]] + processes)

    def test_each_call_over_it_is_lost(self):
        before = SIX + [("break", 1, 2)]
        told = behind(before, ("link", 1, 2), ("cut", 1, 2), ("link", 1, 2), ("watch", 1, 2), ("unwatch", 1, 2),
                      ("watch", 1, 2), ("stop", 1, 2, 5), ("say", 1, 2, 5), ("air",), ("process", 1), ("process", 2))
        self.assertEqual(told, [[1], [1], [1], [2], [1], [3], [0], [0], [0],
                                living(1, links=((2, 0),), watches=((3, 2),)), living(2)])

    def test_an_end_over_it_is_lost(self):
        before = SIX + [("link", 1, 2), ("watch", 2, 1), ("watch", 1, 2), ("turns", 3), ("break", 1, 2), ("ends", 1, 5)]
        self.assertEqual(behind(before, ("air",), ("process", 2)),
                         [[0], living(2, links=((1, 0),), watches=((1, 1),), watched_by=((2, 1),))])

    def test_another_wire_is_not_touched(self):
        before = SIX + [("break", 1, 2), ("say", 1, 3, 5), ("say", 2, 3, 6), ("say", 3, 1, 7), ("turns", 3)]
        self.assertEqual(behind(before, ("box", 3), ("box", 1)), [[2, 0, 1, 5, 0, 2, 6], [1, 0, 3, 7]])


class NoConnection(unittest.TestCase):

    LOST = SIX + [("trap", 1, 1), ("break", 1, 2), ("notice", 1, 2)]

    def test_what_comes_back_for_each_call(self):
        told = behind(self.LOST, ("link", 1, 2), ("cut", 1, 2), ("watch", 1, 2), ("watch", 4, 5), ("unwatch", 1, 2),
                      ("stop", 1, 2, 5), ("say", 1, 2, 5), ("air",))
        self.assertEqual(told, [[1], [1], [2], [3], [1], [0], [0],
                                [4, 2, 1, 4, 4, 0, 2, 1, 3, 1, 0, 2, 1, 8, 2, 4, 0, 5, 4, 8, 3, 4, 0]])

    def test_a_link_is_felt_as_an_end_with_4(self):
        told = behind(self.LOST, ("link", 1, 2), ("link", 4, 2), ("process", 1), ("deliver", 2, 1), ("deliver", 2, 4),
                      ("process", 1), ("box", 1), ("process", 4), ("process", 2), ("box", 2), ("air",))
        self.assertEqual(told[2:], [living(1, traps=1, links=((2, 0),)), [4, 4, 1], [4, 4, 1], living(1, traps=1),
                                    [1, 1, 2, 4], ended(1, 4), living(2), [0], [0]])

    def test_a_cut_is_heard(self):
        told = behind(self.LOST, ("link", 1, 2), ("deliver", 2, 1), ("link", 1, 2), ("cut", 1, 2), ("air",),
                      ("deliver", 2, 1), ("process", 1), ("deliver", 2, 1), ("process", 1), ("box", 1))
        self.assertEqual(told[4:], [[2, 2, 1, 4, 4, 0, 2, 1, 3, 1, 0], [4, 4, 1], living(1, traps=1), [3, 1, 1],
                                    living(1, traps=1), [1, 1, 2, 4]])

    def test_a_watch_is_told_with_4(self):
        told = behind(self.LOST, ("watch", 1, 2), ("watch", 4, 2), ("turns", 2), ("process", 1), ("box", 1), ("box", 4))
        self.assertEqual(told[2:], [[2], living(1, traps=1), [1, 2, 1, 4], [1, 2, 2, 4]])

    def test_whether_the_other_lives_does_not_matter(self):
        told = behind(self.LOST, ("ends", 2, 9), ("link", 1, 2), ("watch", 1, 2), ("turns", 1000), ("box", 1))
        self.assertEqual(told[-2:], [[2], [2, 1, 2, 4, 2, 1, 4]])

    def test_what_comes_back_arrives_behind_a_join_too(self):
        before = self.LOST + [("link", 1, 2), ("watch", 1, 2), ("join", 1, 2)]
        told = behind(before, ("process", 1), ("air",), ("deliver", 2, 1), ("deliver", 2, 1), ("process", 1),
                      ("box", 1), ("process", 2))
        self.assertEqual(told, [living(1, traps=1, links=((2, 0),), watches=((1, 2),)),
                                [2, 2, 1, 4, 4, 0, 2, 1, 8, 1, 4, 0], [4, 4, 1], [8, 1, 4, 1], living(1, traps=1),
                                [2, 1, 2, 4, 2, 1, 4], living(2)])

    # As the words on sending and arriving have it, though the link goes one way then.
    def test_what_comes_back_may_take_a_link_that_was_made_behind_a_join(self):
        before = self.LOST + [("link", 1, 2), ("join", 1, 2), ("cut", 1, 2), ("link", 1, 2)]
        told = behind(before, ("air",), ("turns", 1000), ("process", 1), ("box", 1), ("process", 2), ("air",))
        self.assertEqual(told, [[3, 2, 1, 4, 4, 0, 1, 2, 2, 1, 4, 1, 2, 1, 4], [4], living(1, traps=1), [1, 1, 2, 4],
                                living(2, links=((1, 0),)), [0]])

    def test_nothing_comes_back_for_what_an_end_sends(self):
        told = behind(self.LOST, ("link", 1, 2), ("watch", 1, 2), ("ends", 1, 9), ("air",), ("turns", 2), ("process", 1),
                      ("box", 1), ("air",))
        self.assertEqual(told[2:], [[0], [2, 2, 1, 4, 4, 0, 2, 1, 8, 1, 4, 0], [2], ended(1, 9, traps=1), [0], [0]])

    def test_the_side_that_has_not_noticed_speaks_into_nothing(self):
        told = behind(self.LOST, ("link", 2, 1), ("watch", 2, 1), ("say", 2, 1, 5), ("air",), ("process", 2))
        self.assertEqual(told, [[1], [1], [0], [0], living(2, links=((1, 0),), watches=((1, 1),))])

    def test_to_others_all_goes_its_way(self):
        told = behind(self.LOST, ("link", 1, 4), ("link", 1, 3), ("air",))
        self.assertEqual(told[-1], [2, 1, 4, 1, 0, 1, 3, 1, 2])


class BehindAJoin(unittest.TestCase):

    def test_all_is_as_between_nodes_that_never_parted(self):
        before = SIX + [("break", 1, 2), ("notice", 2, 1), ("join", 1, 2)]
        told = behind(before, ("link", 1, 2), ("watch", 2, 1), ("say", 1, 2, 5), ("air",), ("turns", 3),
                      ("process", 1), ("process", 2), ("box", 2))
        self.assertEqual(told, [[1], [1], [0], [3, 1, 2, 1, 4, 2, 1, 6, 1, 4, 1, 2, 0, 5, 4], [3],
                                living(1, links=((2, 0),), watched_by=((1, 2),)),
                                living(2, links=((1, 0),), watches=((1, 1),)), [1, 0, 1, 5]])

    def test_an_old_cut_does_not_take_a_new_link(self):
        before = SIX + [("trap", 1, 1), ("trap", 2, 1), ("link", 1, 2), ("turns", 1), ("cut", 1, 2), ("join", 1, 2),
                        ("link", 2, 1), ("deliver", 2, 1)]
        self.assertEqual(behind(before, ("deliver", 1, 2), ("process", 2), ("process", 1)),
                         [[2, 1, 0], living(2, traps=1, links=((1, 0),)), living(1, traps=1, links=((2, 0),))])

    def test_an_old_end_does_not_take_a_new_link(self):
        before = SIX + [("trap", 1, 1), ("trap", 2, 1), ("link", 1, 2), ("deliver", 1, 2), ("ends", 1, 5),
                        ("join", 1, 2), ("link", 2, 1)]
        self.assertEqual(behind(before, ("deliver", 1, 2), ("process", 2), ("box", 2), ("turns", 2), ("box", 2)),
                         [[4, 5, 0], living(2, traps=1, links=((1, 0),)), [1, 1, 1, 4], [2],
                          [2, 1, 1, 4, 1, 1, 3]])

    def test_an_old_watch_is_not_taken_for_new(self):
        before = SIX + [("watch", 1, 2), ("join", 1, 2), ("deliver", 1, 2)]
        self.assertEqual(last(before), [6, 1, 0])
        self.assertEqual(behind(before, ("process", 2), ("ends", 2, 5), ("air",), ("box", 1)),
                         [living(2), [0], [0], [1, 2, 1, 4]])


if __name__ == "__main__":
    unittest.main()
