"""Point 4: nodes that aren't two are refused with -1, a wire or a connection that isn't so with -4."""

import unittest

from asking import GREATEST, Refusing, ask, behind, last, world_behind

PAIRS = ((1, 2), (2, 1), (1, 3), (3, 1), (2, 3), (3, 2))
AT_FIRST = {(1, 2): 1, (2, 1): 1, (1, 3): 2, (3, 1): 2, (2, 3): 3, (3, 2): 3}

NOT_NODES = (0, 4, 5, GREATEST)

# Worlds in which each wire is as it was, broken, noticed on one side, on both, and joined again.
JOINED_UP = []
ALL_BROKEN = [("break", 1, 2), ("break", 1, 3), ("break", 2, 3)]
ONE_SIDE = ALL_BROKEN + [("notice", 1, 2), ("notice", 3, 1), ("notice", 2, 3)]
BOTH_SIDES = ONE_SIDE + [("notice", 2, 1), ("notice", 1, 3), ("notice", 3, 2)]
AGAIN = BOTH_SIDES + [("join", 1, 2), ("join", 1, 3), ("join", 2, 3)]
WORLDS = (JOINED_UP, ALL_BROKEN, ONE_SIDE, BOTH_SIDES, AGAIN)


class TwoNodes(Refusing):

    def test_those_there_are(self):
        for name, before, answers in (("break", [], [[0]] * 6), ("join", [], [[4]] * 6),
                                      ("notice", ALL_BROKEN, [[AT_FIRST[pair]] for pair in PAIRS])):
            for (a, b), answer in zip(PAIRS, answers):
                with self.subTest(name=name, a=a, b=b):
                    self.assertEqual(last(before + [(name, a, b)]), answer)

    def test_one_that_is_none(self):
        for name in ("break", "notice", "join"):
            for before in WORLDS:
                for other in NOT_NODES:
                    for node in (1, 2, 3):
                        self.refused(before, (name, node, other), -1)
                        self.refused(before, (name, other, node), -1)
                    self.refused(before, (name, other, 4), -1)

    def test_the_same_twice(self):
        for name in ("break", "notice", "join"):
            for before in WORLDS:
                for node in (1, 2, 3) + NOT_NODES:
                    self.refused(before, (name, node, node), -1)

    def test_processes_do_not_make_nodes(self):
        before = [("start", 1)] * 5
        for name in ("break", "notice", "join"):
            self.refused(before, (name, 4, 5), -1)
            self.refused(before, (name, 1, 4), -1)


class Break(Refusing):

    def test_one_that_is_broken_told_from_either_side(self):
        for a, b in PAIRS:
            self.assertEqual(ask([("break", a, b)]), [[0]])
            self.refused([("break", a, b)], ("break", a, b), -4)
            self.refused([("break", a, b)], ("break", b, a), -4)

    def test_the_others_are_not_broken_by_it(self):
        self.assertEqual(ask([("break", 2, 1), ("break", 3, 1), ("break", 3, 2)]), [[0], [0], [0]])

    def test_whoever_has_noticed(self):
        for before in (ALL_BROKEN, ONE_SIDE, BOTH_SIDES):
            for a, b in PAIRS:
                self.refused(before, ("break", a, b), -4)

    def test_again_behind_a_join(self):
        for a, b in PAIRS:
            before = [("break", a, b), ("join", b, a)]
            self.assertEqual(behind(before, ("break", a, b)), [[0]])
            self.refused(before + [("break", a, b)], ("break", a, b), -4)
        for a, b in ((1, 2), (1, 3), (2, 3)):
            self.assertEqual(last(AGAIN + [("break", a, b)]), [0])

    def test_another_wires_join_does_not_mend_it(self):
        self.refused([("break", 1, 2), ("join", 1, 3), ("join", 2, 3)], ("break", 1, 2), -4)


class Notice(Refusing):

    def test_where_the_wire_is_not_broken(self):
        for before in (JOINED_UP, AGAIN):
            for a, b in PAIRS:
                self.refused(before, ("notice", a, b), -4)

    def test_another_wire_that_is_broken_is_not_it(self):
        for a, b in PAIRS:
            others = [pair for pair in ((1, 2), (1, 3), (2, 3)) if pair != (min(a, b), max(a, b))]
            self.refused([("break", *pair) for pair in others], ("notice", a, b), -4)

    def test_each_side_once(self):
        for a, b in PAIRS:
            before = [("break", 1, 2), ("break", 1, 3), ("break", 2, 3), ("notice", a, b)]
            self.assertEqual(last(before), [AT_FIRST[(a, b)]])
            self.refused(before, ("notice", a, b), -4)
            self.assertEqual(last(before + [("notice", b, a)]), [AT_FIRST[(b, a)]])
            self.refused(before + [("notice", b, a)], ("notice", a, b), -4)
            self.refused(before + [("notice", b, a)], ("notice", b, a), -4)

    def test_behind_a_join_only_when_it_is_broken_again(self):
        before = [("break", 1, 2), ("notice", 1, 2), ("join", 1, 2)]
        self.refused(before, ("notice", 1, 2), -4)
        self.refused(before, ("notice", 2, 1), -4)
        self.assertEqual(behind(before, ("break", 2, 1), ("notice", 1, 2), ("notice", 1, 2), ("notice", 2, 1)),
                         [[0], [4], [-4], [4]])

    def test_no_connection_though_the_wire_is_not_broken(self):
        world = world_behind([("start", 1)])
        world.connections[(1, 2)] = 0
        self.refused_on(world, ("notice", 1, 2), -4)


class Join(Refusing):

    def test_whatever_the_wire_is(self):
        for before, number in ((JOINED_UP, 4), (ALL_BROKEN, 4), (ONE_SIDE, 4), (BOTH_SIDES, 4), (AGAIN, 7)):
            for a, b in PAIRS:
                with self.subTest(before=before, a=a, b=b):
                    self.assertEqual(last(before + [("join", a, b)]), [number])

    def test_a_refused_one_takes_no_number(self):
        self.assertEqual(ask([("join", 1, 1), ("join", 0, 1), ("join", 1, 4), ("join", 1, 3), ("join", 4, 1),
                              ("join", 3, 1)]), [[-1], [-1], [-1], [4], [-1], [5]])


if __name__ == "__main__":
    unittest.main()
