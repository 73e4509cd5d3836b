"""What is told of boxes, processes, the air and the wires, number by number, in long lists of mixed calls."""

import unittest

from asking import GREATEST, ask, behind, call_on, ended, flat, living, picture, world_behind
from partednodes.state import World
from partednodes.world import answers

# Three linked ones on three nodes, of which node 3 parts from node 1 and later from node 2.
FIRST_STORY = (
    (("start", 1), [1]),
    (("start", 2), [2]),
    (("start", 3), [3]),
    (("start", 4), [-1]),
    (("child", 1, 1), [4, 0]),
    (("child", 2, 2), [5, 1]),
    (("child", 3, 0), [6, 0]),
    (("child", 3, 3), [-1]),
    (("wires",), [1, 1, 0, 2, 2, 0, 3, 3, 0]),
    (("air",), [0]),
    (("process", 1), [1, 1, 0, 0, 1, 4, 0, 0, 0]),
    (("process", 2), [2, 1, 0, 0, 0, 1, 1, 5, 0]),
    (("process", 5), [2, 1, 0, 0, 0, 0, 1, 1, 2]),
    (("trap", 1, 1), [0]),
    (("trap", 3, 1), [0]),
    (("link", 1, 2), [1]),
    (("link", 2, 3), [1]),
    (("link", 3, 1), [1]),
    (("watch", 1, 3), [2]),
    (("watch", 3, 2), [3]),
    (("watch", 6, 1), [4]),
    (("air",), [6, 1, 2, 1, 1, 2, 3, 1, 3, 3, 1, 1, 2, 1, 3, 6, 2, 2, 3, 2, 6, 3, 3, 6, 1, 6, 4, 2]),
    (("deliver", 3, 1), [1, 1]),
    (("deliver", 3, 1), [-5]),
    (("deliver", 2, 3), [1, 1]),
    (("turns", 3), [3]),
    (("process", 3), [3, 1, 0, 1, 2, 1, 0, 2, 0, 1, 3, 2, 1, 2, 1]),
    (("process", 2), [2, 1, 0, 0, 2, 1, 0, 3, 0, 1, 1, 5, 1, 3, 3]),
    (("air",), [1, 6, 1, 6, 4, 2]),
    (("turns", 1001), [-1]),
    (("turns", 1000), [1]),
    (("cut", 1, 2), [1]),
    (("process", 1), [1, 1, 0, 1, 3, 2, 5, 3, 0, 4, 0, 1, 2, 3, 1, 4, 6]),
    (("say", 1, 2, 77), [0]),
    (("say", 2, 1, 88), [0]),
    (("say", 3, 3, 4294967295), [0]),
    (("air",), [4, 1, 2, 2, 5, 1, 1, 2, 0, 77, 1, 2, 1, 0, 88, 1, 3, 3, 0, 4294967295, 0]),
    (("deliver", 1, 2), [2, 5, 1]),
    (("process", 2), [2, 1, 0, 0, 1, 3, 0, 1, 1, 5, 1, 3, 3]),
    (("deliver", 2, 1), [0, 88, 1]),
    (("deliver", 2, 1), [3, 5, 1]),
    (("process", 1), [1, 1, 0, 1, 2, 3, 0, 4, 0, 1, 2, 3, 1, 4, 6]),
    (("box", 1), [1, 0, 2, 88]),
    (("break", 1, 3), [0]),
    (("break", 3, 1), [-4]),
    (("say", 1, 3, 5), [0]),
    (("say", 3, 1, 6), [0]),
    (("air",), [2, 1, 2, 0, 77, 1, 3, 3, 0, 4294967295, 0]),
    (("turns", 2), [2]),
    (("box", 2), [1, 0, 1, 77]),
    (("box", 3), [1, 0, 3, 4294967295]),
    (("notice", 3, 1), [2]),
    (("wires",), [1, 1, 0, 2, 0, 1, 3, 3, 0]),
    (("process", 3), [3, 1, 0, 1, 1, 2, 0, 1, 3, 2, 0]),
    (("box", 3), [2, 0, 3, 4294967295, 1, 1, 4]),
    (("process", 1), [1, 1, 0, 1, 2, 3, 0, 4, 0, 1, 2, 3, 1, 4, 6]),
    (("link", 3, 1), [1]),
    (("watch", 3, 1), [6]),
    (("notice", 3, 1), [-4]),
    (("air",), [2, 1, 3, 4, 4, 0, 1, 3, 8, 6, 4, 0]),
    (("deliver", 1, 3), [4, 4, 1]),
    (("deliver", 1, 3), [8, 6, 4, 1]),
    (("box", 3), [4, 0, 3, 4294967295, 1, 1, 4, 1, 1, 4, 2, 6, 4]),
    (("ends", 6, 0), [0]),
    (("air",), [0]),
    (("notice", 1, 3), [2]),
    (("box", 1), [3, 0, 2, 88, 2, 2, 4, 1, 3, 4]),
    (("process", 1), [1, 1, 0, 1, 1, 4, 0, 0, 0]),
    (("process", 4), [1, 1, 0, 0, 1, 1, 0, 0, 0]),
    (("turns", 5), [0]),
    (("join", 1, 3), [4]),
    (("wires",), [1, 1, 0, 4, 4, 0, 3, 3, 0]),
    (("link", 4, 3), [1]),
    (("stop", 3, 4, 9), [0]),
    (("air",), [2, 4, 3, 1, 4, 3, 4, 5, 9, 4]),
    (("deliver", 4, 3), [1, 1]),
    (("deliver", 3, 4), [5, 9, 1]),
    (("process", 4), [1, 0, 9, 0, 0, 0, 0]),
    (("air",), [2, 4, 1, 4, 9, 0, 4, 3, 4, 9, 4]),
    (("turns", 1000), [2]),
    (("box", 1), [4, 0, 2, 88, 2, 2, 4, 1, 3, 4, 1, 4, 9]),
    (("box", 3), [5, 0, 3, 4294967295, 1, 1, 4, 1, 1, 4, 2, 6, 4, 1, 4, 9]),
    (("process", 1), [1, 1, 0, 1, 0, 0, 0]),
    (("process", 3), [3, 1, 0, 1, 1, 2, 0, 1, 3, 2, 0]),
    (("stop", 1, 2, 1), [0]),
    (("trap", 2, 1), [0]),
    (("turns", 1), [1]),
    (("process", 2), [2, 0, 2, 1, 0, 0, 0]),
    (("air",), [3, 2, 3, 4, 2, 3, 2, 3, 8, 3, 2, 3, 2, 5, 7, 1, 0]),
    (("join", 3, 2), [5]),
    (("air",), [3, 2, 3, 4, 2, 3, 2, 3, 8, 3, 2, 3, 2, 5, 7, 1, 0]),
    (("turns", 1000), [3]),
    (("box", 3), [7, 0, 3, 4294967295, 1, 1, 4, 1, 1, 4, 2, 6, 4, 1, 4, 9, 2, 3, 4, 1, 2, 4]),
    (("box", 5), [0]),
    (("process", 5), [2, 1, 0, 0, 0, 0, 0]),
    (("process", 6), [3, 0, 0, 0, 0, 0, 0]),
    (("link", 1, 2), [1]),
    (("turns", 2), [2]),
    (("box", 1), [5, 0, 2, 88, 2, 2, 4, 1, 3, 4, 1, 4, 9, 1, 2, 3]),
    (("wires",), [1, 1, 0, 4, 4, 0, 5, 5, 0]),
)

# Several on node 1 and one on node 2, joined to those on node 3, which parts from node 1.
SECOND_STORY = (
    (("start", 3), [1]),
    (("child", 1, 2), [2, 1]),
    (("child", 1, 1), [3, 0]),
    (("start", 1), [4]),
    (("start", 1), [5]),
    (("start", 2), [6]),
    (("watch", 4, 1), [2]),
    (("watch", 5, 1), [3]),
    (("watch", 6, 1), [4]),
    (("watch", 4, 2), [5]),
    (("link", 4, 1), [1]),
    (("link", 5, 1), [1]),
    (("link", 6, 1), [1]),
    (("link", 6, 4), [1]),
    (("link", 4, 5), [1]),
    (("deliver", 6, 1), [6, 4, 1]),
    (("deliver", 5, 1), [6, 3, 1]),
    (("turns", 1000), [7]),
    (("process", 1), [3, 1, 0, 0, 4, 3, 0, 4, 0, 5, 0, 6, 0, 1, 1, 2, 3, 4, 6, 3, 5, 2, 4]),
    (("process", 4), [1, 1, 0, 0, 3, 1, 0, 5, 0, 6, 0, 2, 2, 1, 5, 2, 0]),
    (("process", 6), [2, 1, 0, 0, 2, 1, 0, 4, 0, 1, 4, 1, 0]),
    (("trap", 4, 1), [0]),
    (("cut", 5, 4), [1]),
    (("cut", 4, 5), [1]),
    (("process", 5), [1, 1, 0, 0, 2, 1, 0, 4, 6, 1, 3, 1, 0]),
    (("air",), [2, 5, 4, 2, 6, 0, 4, 5, 2, 7, 0]),
    (("turns", 2), [2]),
    (("process", 4), [1, 1, 0, 1, 3, 1, 0, 5, 7, 6, 0, 2, 2, 1, 5, 2, 0]),
    (("process", 5), [1, 1, 0, 0, 2, 1, 0, 4, 6, 1, 3, 1, 0]),
    (("air",), [2, 4, 5, 3, 6, 0, 5, 4, 3, 7, 0]),
    (("link", 5, 4), [1]),
    (("air",), [3, 4, 5, 3, 6, 0, 5, 4, 3, 7, 0, 5, 4, 1, 0]),
    (("turns", 1000), [3]),
    (("process", 4), [1, 1, 0, 1, 3, 1, 0, 5, 0, 6, 0, 2, 2, 1, 5, 2, 0]),
    (("process", 5), [1, 1, 0, 0, 2, 1, 0, 4, 0, 1, 3, 1, 0]),
    (("say", 6, 1, 1), [0]),
    (("say", 4, 1, 2), [0]),
    (("break", 1, 3), [0]),
    (("break", 1, 3), [-4]),
    (("say", 4, 1, 3), [0]),
    (("say", 6, 1, 4), [0]),
    (("air",), [3, 6, 1, 0, 1, 3, 4, 1, 0, 2, 2, 6, 1, 0, 4, 3]),
    (("notice", 3, 1), [2]),
    (("process", 1), [3, 0, 4, 0, 0, 0, 0]),
    (("process", 2), [3, 1, 0, 0, 0, 0, 1, 1, 1]),
    (("process", 3), [3, 1, 0, 0, 1, 1, 0, 0, 0]),
    (("air",), [7, 6, 1, 0, 1, 3, 4, 1, 0, 2, 2, 6, 1, 0, 4, 3, 1, 3, 4, 4, 0, 1, 6, 4, 4, 3, 1, 6, 8, 4, 4,
                3, 1, 2, 7, 1, 0]),
    (("deliver", 4, 1), [0, 2, 0]),
    (("deliver", 6, 1), [0, 1, 1]),
    (("turns", 2), [2]),
    (("process", 3), [3, 0, 4, 0, 0, 0, 0]),
    (("process", 6), [2, 1, 0, 0, 2, 1, 0, 4, 0, 1, 4, 1, 0]),
    (("box", 6), [0]),
    (("air",), [3, 1, 6, 4, 4, 3, 1, 6, 8, 4, 4, 3, 1, 2, 7, 1, 0]),
    (("turns", 1000), [5]),
    (("box", 6), [0]),
    (("process", 6), [2, 0, 4, 0, 0, 0, 0]),
    (("air",), [0]),
    (("process", 4), [1, 1, 0, 1, 2, 1, 0, 5, 0, 2, 2, 1, 5, 2, 0]),
    (("process", 5), [1, 1, 0, 0, 2, 1, 0, 4, 0, 1, 3, 1, 0]),
    (("notice", 1, 3), [2]),
    (("notice", 1, 3), [-4]),
    (("process", 4), [1, 1, 0, 1, 1, 5, 0, 0, 0]),
    (("box", 4), [4, 1, 6, 4, 2, 2, 4, 2, 5, 4, 1, 1, 4]),
    (("process", 5), [1, 0, 4, 0, 0, 0, 0]),
    (("box", 5), [1, 2, 3, 4]),
    (("air",), [1, 5, 4, 4, 4, 0]),
    (("watch", 4, 1), [8]),
    (("watch", 4, 2), [9]),
    (("unwatch", 4, 5), [0]),
    (("air",), [3, 5, 4, 4, 4, 0, 1, 4, 8, 8, 4, 0, 2, 4, 8, 9, 4, 0]),
    (("join", 3, 1), [4]),
    (("process", 4), [1, 1, 0, 1, 1, 5, 0, 2, 8, 1, 9, 2, 0]),
    (("air",), [3, 5, 4, 4, 4, 0, 1, 4, 8, 8, 4, 0, 2, 4, 8, 9, 4, 0]),
    (("link", 2, 4), [1]),
    (("watch", 2, 4), [10]),
    (("air",), [5, 5, 4, 4, 4, 0, 1, 4, 8, 8, 4, 0, 2, 4, 8, 9, 4, 0, 2, 4, 1, 4, 2, 4, 6, 10, 4]),
    (("turns", 1000), [5]),
    (("process", 2), [3, 1, 0, 0, 1, 4, 0, 1, 10, 4, 0]),
    (("process", 4), [1, 1, 0, 1, 1, 2, 0, 0, 1, 10, 2]),
    (("box", 4), [7, 1, 6, 4, 2, 2, 4, 2, 5, 4, 1, 1, 4, 1, 5, 4, 2, 8, 4, 2, 9, 4]),
    (("stop", 4, 2, 0), [0]),
    (("stop", 2, 4, 0), [0]),
    (("turns", 2), [2]),
    (("box", 4), [8, 1, 6, 4, 2, 2, 4, 2, 5, 4, 1, 1, 4, 1, 5, 4, 2, 8, 4, 2, 9, 4, 3, 2, 0]),
    (("ends", 2, 0), [0]),
    (("air",), [2, 2, 4, 4, 0, 4, 2, 4, 7, 10, 4]),
    (("turns", 1), [1]),
    (("box", 4), [9, 1, 6, 4, 2, 2, 4, 2, 5, 4, 1, 1, 4, 1, 5, 4, 2, 8, 4, 2, 9, 4, 3, 2, 0, 1, 2, 0]),
    (("turns", 1000), [1]),
    (("process", 4), [1, 1, 0, 1, 0, 0, 0]),
    (("box", 2), [0]),
    (("process", 2), [3, 0, 0, 0, 0, 0, 0]),
    (("deliver", 2, 4), [-5]),
    (("link", 4, 2), [1]),
    (("turns", 1), [1]),
    (("turns", 1), [1]),
    (("box", 4), [10, 1, 6, 4, 2, 2, 4, 2, 5, 4, 1, 1, 4, 1, 5, 4, 2, 8, 4, 2, 9, 4, 3, 2, 0, 1, 2, 0, 1, 2, 3]),
    (("air",), [0]),
    (("wires",), [1, 1, 0, 4, 4, 0, 3, 3, 0]),
)

# Each is refused in any world of the stories.
REFUSED = (
    ("start", 0), ("start", 4), ("child", 0, 0), ("child", 1, 3), ("link", 1, 1), ("link", 13, 1), ("cut", 1, 13),
    ("watch", 1, GREATEST), ("unwatch", 13, 1), ("ends", 1, 100), ("stop", 1, 2, 100), ("trap", 1, 2),
    ("say", 0, 1, 1), ("say", 1, 0, 1), ("deliver", 0, 1), ("deliver", 1, 13), ("turns", 1001), ("turns", GREATEST),
    ("box", 0), ("box", 13), ("process", 0), ("process", 13), ("break", 1, 1), ("break", 1, 4), ("notice", 0, 1),
    ("notice", 2, 2), ("join", 1, 1), ("join", 3, 4),
)

TELLING = ("box", "process", "air", "wires")


class Stories(unittest.TestCase):

    def test_each_answer(self):
        for story in (FIRST_STORY, SECOND_STORY):
            told = ask([call for call, answer in story])
            self.assertEqual(len(told), 100)
            for k, (call, answer) in enumerate(story):
                with self.subTest(k=k, call=call):
                    self.assertEqual(told[k], answer)

    def test_all_in_one_list(self):
        for story in (FIRST_STORY, SECOND_STORY):
            numbers = []
            for call, answer in story:
                numbers += [len(answer)] + answer
            self.assertEqual(answers(flat([call for call, answer in story])), numbers)

    def test_any_beginning_is_answered_as_in_the_whole(self):
        for story in (FIRST_STORY, SECOND_STORY):
            for count in range(1, 100):
                self.assertEqual(ask([call for call, answer in story[:count]]),
                                 [answer for call, answer in story[:count]])

    def test_refused_calls_between_change_nothing(self):
        for story in (FIRST_STORY, SECOND_STORY):
            world = World()
            for k, (call, answer) in enumerate(story):
                refused = REFUSED[k % len(REFUSED)]
                with self.subTest(k=k, refused=refused, call=call):
                    was = picture(world)
                    self.assertEqual(call_on(world, refused), [-1])
                    self.assertEqual(picture(world), was)
                    self.assertEqual(call_on(world, call), answer)

    def test_what_is_asked_changes_nothing(self):
        for story in (FIRST_STORY, SECOND_STORY):
            doing = [(call, answer) for call, answer in story if call[0] not in TELLING]
            self.assertEqual(ask([call for call, answer in doing]), [answer for call, answer in doing])
            self.assertEqual(picture(world_behind([call for call, answer in doing])),
                             picture(world_behind([call for call, answer in story])))


class AtFirst(unittest.TestCase):

    def test_an_empty_world(self):
        self.assertEqual(ask([("air",), ("wires",), ("box", 1), ("process", 1), ("turns", 1000)]),
                         [[0], [1, 1, 0, 2, 2, 0, 3, 3, 0], [-1], [-1], [0]])

    def test_a_new_process(self):
        for node in (1, 2, 3):
            self.assertEqual(ask([("start", node), ("process", 1), ("box", 1)]), [[1], living(node), [0]])
            self.assertEqual(ask([("start", node), ("child", 1, 0), ("process", 2), ("process", 1)])[2:],
                             [living(node), living(node)])


class Process(unittest.TestCase):

    def test_one_that_has_ended(self):
        for why in (0, 1, 2, 3, 4, 99):
            for traps in (0, 1):
                before = [("start", 2), ("trap", 1, traps), ("ends", 1, why)]
                self.assertEqual(behind(before, ("process", 1)), [ended(2, why, traps=traps)])

    def test_trapping(self):
        told = ask([("start", 2), ("trap", 1, 1), ("process", 1), ("trap", 1, 0), ("process", 1)])
        self.assertEqual((told[2], told[4]), (living(2, traps=1), living(2)))

    def test_links_are_told_by_whom_they_go_to(self):
        before = [("start", 1)] * 12 + [("link", 5, q) for q in (12, 3, 9, 1, 10, 2)] + [("cut", 5, 9), ("cut", 5, 1)]
        self.assertEqual(behind(before, ("process", 5)),
                         [living(1, links=((1, 2), (2, 0), (3, 0), (9, 1), (10, 0), (12, 0)))])

    def test_a_link_made_again_is_told_in_its_place(self):
        before = [("start", 1)] * 4 + [("link", 1, 2), ("link", 1, 3), ("cut", 1, 2), ("link", 1, 2)]
        self.assertEqual(behind(before, ("process", 1)), [living(1, links=((2, 0), (3, 0)))])

    def test_watches_are_told_in_the_order_in_which_they_began(self):
        before = [("start", 1)] * 4 + [("watch", 1, 4), ("watch", 1, 2), ("child", 1, 2), ("watch", 1, 4),
                                       ("unwatch", 1, 2), ("watch", 1, 2)]
        self.assertEqual(behind(before, ("process", 1)), [living(1, watches=((1, 4), (3, 5), (4, 4), (5, 2)))])

    def test_a_family(self):
        before = [("start", 3), ("child", 1, 1), ("child", 1, 2), ("child", 2, 1), ("child", 3, 2)]
        self.assertEqual(behind(before, *[("process", p) for p in (1, 2, 3, 4, 5)]),
                         [living(3, links=((2, 0),), watches=((1, 3),)), living(3, links=((1, 0), (4, 0))),
                          living(3, watches=((2, 5),), watched_by=((1, 1),)), living(3, links=((2, 0),)),
                          living(3, watched_by=((2, 3),))])


class HundredCalls(unittest.TestCase):

    def test_eighty_words_in_the_air_and_in_the_box(self):
        starts = [("start", k % 3 + 1) for k in range(12)]
        says = [("say", k % 12 + 1, 5, k * 1000) for k in range(80)]
        told = ask(starts + says + [("air",), ("turns", 30), ("air",), ("box", 5), ("turns", 1000), ("box", 5), ("air",),
                                    ("process", 5)])
        self.assertEqual(len(told), 100)
        # 5 stands on node 2, which is joined to node 1 by connection 1 and to node 3 by connection 3.
        air = [[k % 12 + 1, 5, 0, k * 1000, (1, 0, 3)[k % 3]] for k in range(80)]
        box = [[0, k % 12 + 1, k * 1000] for k in range(80)]
        self.assertEqual(told[92:], [[80] + sum(air, []), [30], [50] + sum(air[30:], []), [30] + sum(box[:30], []),
                                     [50], [80] + sum(box, []), [0], living(2)])

    def test_ninety_watches_lost_at_once(self):
        calls = [("start", 1), ("start", 3)] + [("watch", 1, 2)] * 90
        calls += [("turns", 45), ("process", 2), ("join", 3, 1), ("process", 1), ("process", 2), ("box", 1),
                  ("turns", 1000), ("process", 2)]
        numbers = list(range(1, 91))
        told = ask(calls)
        self.assertEqual(len(told), 100)
        self.assertEqual(told[92:], [[45], living(3, watched_by=[(k, 1) for k in numbers[:45]]), [4], living(1),
                                     living(3), [90] + sum([[2, k, 4] for k in numbers], []), [45], living(3)])

    def test_one_linked_to_all_others_ends(self):
        calls = [("start", 1)] + [("child", 1, 1)] * 11 + [("trap", p, 1) for p in range(1, 13)]
        calls += [("link", 2, q) for q in range(12, 2, -1)] + [("turns", 10), ("process", 2), ("ends", 2, 5), ("air",)]
        calls += [("turns", 1000)] + [("box", p) for p in range(1, 13)]
        told = ask(calls)
        others = [1] + list(range(3, 13))
        self.assertEqual(told[34:39], [[10], living(1, traps=1, links=[(q, 0) for q in others]), [0],
                                       [11] + sum([[2, q, 4, 5, 0] for q in others], []), [11]])
        self.assertEqual(told[39:], [[0] if p == 2 else [1, 1, 2, 5] for p in range(1, 13)])

    def test_joined_again_and_again(self):
        calls = [("join", *((1, 2), (3, 1), (2, 3))[k % 3]) for k in range(99)] + [("wires",)]
        self.assertEqual(ask(calls), [[k + 4] for k in range(99)] + [[100, 100, 0, 101, 101, 0, 102, 102, 0]])


if __name__ == "__main__":
    unittest.main()
