"""Point 3: deliver where none is on its way is refused with -5, turns above 1000 with -1."""

import unittest

from asking import GREATEST, Refusing, behind, call_on, fill_air, last, world_behind

THREE = [("start", 1), ("start", 2), ("start", 1)]


class Deliver(Refusing):

    def test_none_at_all(self):
        for p in (1, 2, 3):
            for q in (1, 2, 3):
                self.refused(THREE, ("deliver", p, q), -5)

    def test_from_q_to_p_alone(self):
        self.refused(THREE + [("say", 2, 1, 5)], ("deliver", 1, 2), -5)
        self.assertEqual(last(THREE + [("say", 2, 1, 5), ("deliver", 2, 1)]), [0, 5, 1])

    def test_of_others_alone(self):
        before = THREE + [("say", 1, 2, 5)]
        for p, q in ((1, 1), (1, 3), (2, 2), (2, 1), (3, 2), (3, 3)):
            self.refused(before, ("deliver", p, q), -5)

    def test_one_just_delivered(self):
        before = THREE + [("say", 1, 2, 5), ("deliver", 1, 2)]
        self.assertEqual(last(before), [0, 5, 1])
        self.refused(before, ("deliver", 1, 2), -5)

    def test_as_many_as_there_are(self):
        says = [("say", 1, 3, word) for word in (6, 7)]
        before = THREE + says + [("deliver", 1, 3), ("deliver", 1, 3)]
        self.assertEqual(behind(THREE + says, *before[-2:]), [[0, 6, 1], [0, 7, 1]])
        self.refused(before, ("deliver", 1, 3), -5)

    def test_one_that_a_turn_has_brought(self):
        self.refused(THREE + [("say", 1, 2, 5), ("turns", 1)], ("deliver", 1, 2), -5)

    def test_to_itself(self):
        self.assertEqual(last(THREE + [("say", 2, 2, 5), ("deliver", 2, 2)]), [0, 5, 1])
        self.refused(THREE + [("say", 2, 2, 5), ("deliver", 2, 2)], ("deliver", 2, 2), -5)

    def test_one_that_was_lost_on_a_broken_wire(self):
        before = THREE + [("break", 1, 2), ("link", 1, 2)]
        self.refused(before, ("deliver", 1, 2), -5)
        self.refused(before, ("deliver", 2, 1), -5)

    def test_one_for_which_something_came_back(self):
        before = THREE + [("break", 1, 2), ("notice", 1, 2), ("link", 1, 2)]
        self.refused(before, ("deliver", 1, 2), -5)
        self.assertEqual(last(before + [("deliver", 2, 1)]), [4, 4, 1])

    def test_one_that_will_not_count_is_on_its_way(self):
        before = THREE + [("say", 1, 2, 5), ("join", 1, 2), ("deliver", 1, 2)]
        self.assertEqual(last(before), [0, 5, 0])
        self.refused(before, ("deliver", 1, 2), -5)

    def test_ended_ones_are_not_refused_otherwise(self):
        before = THREE + [("ends", 1, 0), ("ends", 2, 0)]
        self.refused(before, ("deliver", 1, 2), -5)
        self.refused(before, ("deliver", 2, 1), -5)

    def test_no_such_process_comes_first(self):
        for before in (THREE, THREE + [("say", 1, 2, 5)]):
            for value in (0, 4, GREATEST):
                for call in (("deliver", value, 2), ("deliver", 1, value), ("deliver", value, value)):
                    self.refused(before, call, -1)


class Turns(Refusing):

    def test_where_nothing_is_on_its_way(self):
        for before in ([], THREE):
            for n in (0, 1, 999, 1000):
                self.assertEqual(last(before + [("turns", n)]), [0])

    def test_above_a_thousand(self):
        for n in (1001, 1002, GREATEST):
            self.refused([], ("turns", n), -1)
            self.refused(THREE + [("say", 1, 2, 5), ("say", 1, 1, 6)], ("turns", n), -1)

    def test_none_one_and_all(self):
        before = THREE + [("say", 1, 2, 5), ("say", 1, 1, 6)]
        for n, arrived in ((0, 0), (1, 1), (2, 2), (3, 2), (1000, 2)):
            with self.subTest(n=n):
                self.assertEqual(last(before + [("turns", n)]), [arrived])

    def test_a_thousand_arrive_of_more(self):
        for count, n, arrived in ((999, 1000, 999), (1000, 1000, 1000), (1001, 1000, 1000), (1001, 999, 999)):
            with self.subTest(count=count, n=n):
                world = world_behind(THREE)
                fill_air(world, count)
                self.assertEqual(call_on(world, ("turns", n)), [arrived])
                self.assertEqual(len(world.air), count - arrived)
                self.assertEqual(len(world.process(1).box), arrived)

    def test_behind_a_refusal_all_is_still_on_its_way(self):
        before = THREE + [("say", 1, 2, 5)]
        self.assertEqual(behind(before, ("turns", 1001), ("air",), ("turns", 1000), ("box", 2)),
                         [[-1], [1, 1, 2, 0, 5, 1], [1], [1, 0, 1, 5]])


if __name__ == "__main__":
    unittest.main()
