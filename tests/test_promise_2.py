"""Point 2: behind point 1, who has ended is refused with -8, what is too much with -6."""

import unittest

from asking import GREATEST, Refusing, call_on, fill_air, last, world_behind

THREE = [("start", 1), ("start", 2), ("start", 1)]

# Behind this 1 has a watch, 1, of 2, a link that holds to 2 and one that is being cut to 3.
JOINED = THREE + [("watch", 1, 2), ("link", 1, 2), ("link", 1, 3), ("cut", 1, 3)]

# With what each of these calls answers in the world behind JOINED.
SENDING = (
    (("link", 1, 2), [0]),
    (("link", 1, 3), [1]),
    (("link", 2, 1), [1]),
    (("cut", 1, 2), [1]),
    (("cut", 1, 3), [0]),
    (("cut", 2, 1), [0]),
    (("watch", 1, 2), [3]),
    (("unwatch", 1, 1), [1]),
    (("stop", 1, 2, 99), [0]),
    (("stop", 1, 1, 0), [0]),
    (("say", 1, 2, 0), [0]),
    (("say", 1, 1, 0), [0]),
)

NOT_SENDING = (
    (("start", 3), [4]),
    (("child", 1, 0), [4, 0]),
    (("child", 1, 1), [4, 0]),
    (("child", 1, 2), [4, 3]),
    (("unwatch", 1, 2), [0]),
    (("unwatch", 1, 3), [0]),
    (("unwatch", 2, 1), [0]),
    (("unwatch", 1, GREATEST), [0]),
    (("ends", 1, 0), [0]),
    (("trap", 1, 1), [0]),
    (("deliver", 1, 2), [6, 1, 1]),
    (("deliver", 1, 3), [1, 1]),
    (("turns", 0), [0]),
    (("turns", 4), [4]),
    (("box", 1), [0]),
    (("process", 2), [2, 1, 0, 0, 0, 0, 0]),
    (("break", 1, 2), [0]),
    (("join", 1, 2), [4]),
    (("join", 3, 2), [4]),
    (("wires",), [1, 1, 0, 2, 2, 0, 3, 3, 0]),
)

OF_PROCESS_1 = (
    ("child", 1, 0), ("child", 1, 1), ("child", 1, 2), ("link", 1, 2), ("cut", 1, 2), ("watch", 1, 2),
    ("unwatch", 1, 1), ("unwatch", 1, 9), ("ends", 1, 0), ("stop", 1, 2, 0), ("stop", 1, 1, 0),
    ("trap", 1, 0), ("trap", 1, 1), ("say", 1, 2, 0), ("say", 1, 1, 0),
)


class Ended(Refusing):

    def test_each_call_of_one_that_has_ended(self):
        for why in (0, 1, 99):
            for call in OF_PROCESS_1:
                self.refused(JOINED + [("ends", 1, why)], call, -8)

    def test_none_of_these_is_refused_so_while_it_lives(self):
        for call in OF_PROCESS_1:
            with self.subTest(call=call):
                self.assertGreaterEqual(last(JOINED + [call])[0], 0)
                self.assertGreaterEqual(last(JOINED + [("ends", 2, 5), call])[0], 0)

    def test_no_such_process_or_value_comes_first(self):
        before = JOINED + [("ends", 1, 0)]
        for call in (("child", 1, 3), ("link", 1, 1), ("link", 1, 4), ("link", 1, 0), ("cut", 1, 1), ("cut", 1, 4),
                     ("cut", 1, 0), ("watch", 1, 1), ("watch", 1, 4), ("watch", 1, 0), ("ends", 1, 100),
                     ("stop", 1, 2, 100), ("stop", 1, 4, 0), ("stop", 1, 0, 0), ("trap", 1, 2), ("say", 1, 4, 0),
                     ("say", 1, 0, 0)):
            self.refused(before, call, -1)


class TwelveProcesses(Refusing):

    def started(self, count):
        return [("start", k % 3 + 1) for k in range(count)]

    def test_the_twelfth_child_is_started_the_thirteenth_not(self):
        for how, watch in ((0, 0), (1, 0), (2, 1)):
            with self.subTest(how=how):
                self.assertEqual(last(self.started(10) + [("child", 1, how)]), [11, watch])
                self.assertEqual(last(self.started(11) + [("child", 1, how)]), [12, watch])
            self.refused(self.started(12), ("child", 1, how), -6)
            self.refused(self.started(12), ("child", 12, how), -6)
            self.refused(self.started(11) + [("child", 1, how)], ("child", 1, how), -6)

    def test_ended_ones_count(self):
        self.refused(self.started(12) + [("ends", 2, 0)], ("child", 1, 0), -6)

    def test_a_refused_child_takes_no_watch_number(self):
        before = self.started(12) + [("child", 1, 2)]
        self.assertEqual(last(before + [("watch", 1, 2)]), [1])

    def test_what_is_told_before_comes_first(self):
        before = self.started(12) + [("ends", 1, 0)]
        self.refused(before, ("child", 1, 0), -8)
        self.refused(before, ("child", 1, 3), -1)
        for p in (0, 13, GREATEST):
            self.refused(before, ("child", p, 0), -1)
        self.refused(before, ("child", 2, 3), -1)


class TwoHundredSignals(Refusing):

    def filled(self, before, count):
        world = world_behind(before)
        fill_air(world, count)
        self.assertEqual(len(world.air), count)
        return world

    def test_below_two_hundred_each_is_taken(self):
        for call, answer in SENDING:
            for count in (198, 199):
                with self.subTest(call=call, count=count):
                    self.assertEqual(call_on(self.filled(JOINED, count), call), answer)

    def test_from_two_hundred_on_each_is_refused(self):
        for call, answer in SENDING:
            for count in (200, 201, 230):
                self.refused_on(self.filled(JOINED, count), call, -6)

    def test_what_is_not_told_so_is_taken(self):
        for call, answer in NOT_SENDING:
            for count in (199, 200, 201):
                with self.subTest(call=call, count=count):
                    self.assertEqual(call_on(self.filled(JOINED, count), call), answer)

    def test_all_of_them_are_told_and_arrive(self):
        for count in (199, 200, 201):
            with self.subTest(count=count):
                self.assertEqual(call_on(self.filled(THREE, count), ("air",)), [count] + [1, 1, 0, 7, 0] * count)
                self.assertEqual(call_on(self.filled(THREE, count), ("turns", 1000)), [count])

    def test_a_loss_is_noticed_all_the_same(self):
        for count in (199, 200, 201):
            with self.subTest(count=count):
                world = self.filled(JOINED + [("break", 1, 2)], count)
                self.assertEqual(call_on(world, ("notice", 1, 2)), [1])

    def test_an_answer_is_sent_beyond_two_hundred(self):
        world = self.filled(THREE + [("link", 1, 3), ("cut", 1, 3)], 230)
        self.assertEqual(call_on(world, ("deliver", 1, 3)), [1, 1])
        self.assertEqual(call_on(world, ("deliver", 1, 3)), [2, 1, 1])
        self.assertEqual((len(world.air), world.air[-1]), (229, (3, 1, (3, 1), 0)))

    def test_an_end_sends_beyond_two_hundred(self):
        world = self.filled(JOINED, 200)
        self.assertEqual(call_on(world, ("ends", 1, 6)), [0])
        self.assertEqual(world.air[200:], [(1, 2, (4, 6), 1), (1, 2, (7, 1), 1)])
        self.refused_on(world, ("say", 2, 2, 0), -6)

    def test_one_that_arrives_makes_room_for_one(self):
        world = self.filled(THREE, 200)
        self.refused_on(world, ("say", 3, 2, 8), -6)
        self.assertEqual(call_on(world, ("deliver", 1, 1)), [0, 7, 1])
        self.assertEqual(call_on(world, ("say", 3, 2, 8)), [0])
        self.refused_on(world, ("say", 3, 2, 8), -6)
        self.assertEqual(call_on(world, ("turns", 1)), [1])
        self.assertEqual(call_on(world, ("watch", 3, 2)), [1])
        self.refused_on(world, ("watch", 3, 2), -6)

    def test_the_two_hundredth_is_sent_and_no_other(self):
        world = self.filled(THREE, 199)
        self.assertEqual(call_on(world, ("say", 3, 2, 8)), [0])
        self.assertEqual(world.air[199:], [(3, 2, (0, 8), 1)])
        self.refused_on(world, ("say", 3, 2, 8), -6)

    def test_what_is_told_before_comes_first(self):
        world = self.filled(JOINED + [("ends", 1, 0)], 200)
        for call, answer in SENDING:
            if call[1] == 1:
                self.refused_on(world, call, -8)
        for name in ("link", "cut", "watch"):
            for call in ((name, 2, 2), (name, 1, 1), (name, 2, 0), (name, 2, 4), (name, 0, 2), (name, 4, 2)):
                self.refused_on(world, call, -1)
        for call in (("unwatch", 0, 1), ("unwatch", 4, 1), ("stop", 2, 3, 100), ("stop", 2, 0, 0), ("stop", 4, 2, 0),
                     ("say", 2, 4, 0), ("say", 0, 2, 0)):
            self.refused_on(world, call, -1)

    def test_as_many_as_a_list_can_send_are_too_few_to_refuse(self):
        before = [("start", 1), ("child", 1, 1)] + [("watch", 1, 2)] * 96 + [("ends", 1, 0)]
        self.assertEqual(len(world_behind(before).air), 193)
        self.assertEqual(last(before + [("say", 2, 1, 0)]), [0])


if __name__ == "__main__":
    unittest.main()
