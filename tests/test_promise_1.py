"""Point 1: what there isn't is refused with -1, a thirteenth process with -6."""

import unittest

from asking import GREATEST, Refusing, ask, last

THREE = [("start", 1), ("start", 2), ("start", 1)]

# With something on its way between those whom deliver is to tell.
SPOKEN = THREE + [("say", 1, 2, 0), ("say", 3, 2, 0), ("say", 1, 3, 0)]

# Calls that fit in the world behind SPOKEN, and which of their values are processes.
FITTING = {
    "child": ((1, 0), (0,)),
    "link": ((1, 2), (0, 1)),
    "cut": ((1, 2), (0, 1)),
    "watch": ((1, 2), (0, 1)),
    "unwatch": ((1, 1), (0,)),
    "ends": ((1, 0), (0,)),
    "stop": ((1, 2, 0), (0, 1)),
    "trap": ((1, 0), (0,)),
    "say": ((1, 2, 0), (0, 1)),
    "deliver": ((1, 2), (0, 1)),
    "box": ((1,), (0,)),
    "process": ((1,), (0,)),
}


class Nodes(Refusing):

    def test_nodes_there_are(self):
        self.assertEqual(ask([("start", 1), ("start", 2), ("start", 3)]), [[1], [2], [3]])

    def test_nodes_there_are_not(self):
        for node in (0, 4, GREATEST):
            self.refused([], ("start", node), -1)
            self.refused(THREE, ("start", node), -1)


class Processes(Refusing):

    def with_value(self, name, place, value):
        values = list(FITTING[name][0])
        values[place] = value
        return (name, *values)

    def test_the_last_one_started(self):
        for name, (values, places) in FITTING.items():
            for place in places:
                self.taken(SPOKEN, self.with_value(name, place, 3))

    def test_none_the_one_behind_and_the_greatest(self):
        for name, (values, places) in FITTING.items():
            for place in places:
                for value in (0, 4, 5, GREATEST):
                    self.refused(SPOKEN, self.with_value(name, place, value), -1)

    def test_in_an_empty_world(self):
        for name, (values, places) in FITTING.items():
            self.refused([], (name, *values), -1)

    def test_one_that_has_ended_is_told_of_all_the_same(self):
        before = SPOKEN + [("ends", 1, 7), ("ends", 2, 8)]
        for call in (("deliver", 1, 2), ("deliver", 3, 2), ("deliver", 1, 3), ("box", 1), ("process", 2)):
            self.taken(before, call)

    def test_the_same_twice(self):
        for name in ("link", "cut", "watch"):
            for p in (1, 2, 3):
                self.refused(THREE, (name, p, p), -1)
            self.taken(THREE, (name, 3, 2))

    def test_the_same_twice_behind_a_link_to_another(self):
        for name in ("link", "cut", "watch"):
            self.refused(THREE + [("link", 1, 2)], (name, 1, 1), -1)

    def test_stop_and_say_may_go_to_oneself(self):
        self.taken(THREE, ("stop", 1, 1, 5))
        self.taken(THREE, ("say", 1, 1, 5))


class OtherValues(Refusing):

    def test_how(self):
        for how in (0, 1, 2):
            self.taken(THREE, ("child", 1, how))
        for how in (3, 4, GREATEST):
            self.refused(THREE, ("child", 1, how), -1)

    def test_why_of_ends(self):
        for why in (0, 1, 99):
            self.taken(THREE, ("ends", 1, why))
        for why in (100, 101, GREATEST):
            self.refused(THREE, ("ends", 1, why), -1)

    def test_why_of_stop(self):
        for why in (0, 1, 99):
            self.taken(THREE, ("stop", 1, 2, why))
        for why in (100, 101, GREATEST):
            self.refused(THREE, ("stop", 1, 2, why), -1)
            self.refused(THREE, ("stop", 1, 1, why), -1)

    def test_yes(self):
        for yes in (0, 1):
            self.taken(THREE, ("trap", 1, yes))
        for yes in (2, 3, GREATEST):
            self.refused(THREE, ("trap", 1, yes), -1)
            self.refused(THREE + [("trap", 1, 1)], ("trap", 1, yes), -1)

    def test_any_word_and_any_watch_number_fit(self):
        for number in (0, 100, 200, GREATEST):
            self.assertEqual(last(THREE + [("say", 1, 2, number)]), [0])
            self.assertEqual(last(THREE + [("unwatch", 1, number)]), [0])


class TwelveProcesses(Refusing):

    def started(self, count):
        return [("start", k % 3 + 1) for k in range(count)]

    def test_the_twelfth_is_started_the_thirteenth_not(self):
        self.assertEqual(last(self.started(11)), [11])
        self.assertEqual(last(self.started(12)), [12])
        self.assertEqual(ask(self.started(14))[11:], [[12], [-6], [-6]])
        for node in (1, 2, 3):
            self.refused(self.started(12), ("start", node), -6)

    def test_children_count(self):
        before = [("start", 1)] + [("child", 1, how % 3) for how in range(10)]
        self.taken(before, ("start", 2))
        self.refused(before + [("child", 1, 0)], ("start", 2), -6)

    def test_ended_ones_count(self):
        before = self.started(12) + [("ends", 4, 0), ("ends", 12, 7)]
        self.refused(before, ("start", 1), -6)

    def test_behind_a_refused_start_the_twelve_are_there(self):
        before = self.started(12) + [("start", 1)]
        self.assertEqual(last(before + [("say", 12, 12, 0)]), [0])
        self.refused(before, ("say", 13, 12, 0), -1)


class FirstTold(Refusing):

    def test_no_such_node_before_twelve_processes(self):
        twelve = [("start", 1)] * 12
        for node in (0, 4, GREATEST):
            self.refused(twelve, ("start", node), -1)

    def test_a_refused_start_takes_no_number(self):
        self.assertEqual(ask([("start", 0), ("start", 4), ("start", 3)]), [[-1], [-1], [1]])


if __name__ == "__main__":
    unittest.main()
