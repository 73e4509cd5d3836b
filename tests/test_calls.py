"""What each of the calls answers, and what it leaves behind."""

import unittest

from asking import GREATEST, ask, call_on, last, picture, world_behind

THREE = [("start", 1), ("start", 2), ("start", 1)]


class Start(unittest.TestCase):

    def test_numbers_in_a_row_whatever_the_node(self):
        self.assertEqual(ask([("start", 3), ("start", 1), ("start", 3), ("start", 2)]), [[1], [2], [3], [4]])

    def test_a_number_is_not_given_again(self):
        self.assertEqual(ask([("start", 1), ("ends", 1, 0), ("start", 1)]), [[1], [0], [2]])

    def test_a_new_process(self):
        world = world_behind([("start", 3)])
        process = world.process(1)
        self.assertEqual((process.node, process.lives, process.why, process.traps), (3, True, 0, 0))
        self.assertEqual((process.links, process.watches, process.watched_by), ({}, {}, {}))
        self.assertEqual(world.air, [])


class Child(unittest.TestCase):

    def test_joined_by_nothing(self):
        before = THREE + [("child", 2, 0)]
        self.assertEqual(last(before), [4, 0])
        self.assertEqual(ask(before + [("link", 2, 4), ("link", 4, 2)])[-2:], [[1], [1]])
        world = world_behind(before)
        self.assertEqual(world.process(4).node, 2)
        self.assertEqual((world.process(2).links, world.process(4).links), ({}, {}))
        self.assertEqual((world.process(2).watches, world.process(4).watched_by), ({}, {}))

    def test_linked(self):
        before = THREE + [("child", 2, 1)]
        self.assertEqual(last(before), [4, 0])
        self.assertEqual(ask(before + [("link", 2, 4), ("link", 4, 2)])[-2:], [[0], [0]])
        self.assertEqual(ask(before + [("cut", 2, 4), ("cut", 4, 2)])[-2:], [[1], [1]])
        world = world_behind(before)
        self.assertEqual(world.process(4).node, 2)
        self.assertEqual((world.process(2).links, world.process(4).links), ({4: 0}, {2: 0}))
        self.assertEqual(world.process(2).watches, {})
        self.assertEqual(world.air, [])

    def test_watched(self):
        before = THREE + [("child", 2, 2)]
        self.assertEqual(last(before), [4, 1])
        self.assertEqual(last(before + [("unwatch", 2, 1)]), [1])
        self.assertEqual(last(before + [("unwatch", 4, 1)]), [0])
        self.assertEqual(last(before + [("cut", 2, 4)]), [0])
        world = world_behind(before)
        self.assertEqual(world.process(4).node, 2)
        self.assertEqual((world.process(2).watches, world.process(2).watched_by), ({1: 4}, {}))
        self.assertEqual((world.process(4).watches, world.process(4).watched_by), ({}, {1: 2}))
        self.assertEqual(world.process(2).links, {})
        self.assertEqual(world.air, [])

    def test_only_a_watched_one_takes_a_number_from_the_row(self):
        calls = [("start", 1), ("child", 1, 2), ("child", 1, 0), ("child", 1, 1), ("child", 1, 2), ("watch", 1, 2)]
        self.assertEqual(ask(calls), [[1], [2, 1], [3, 0], [4, 0], [5, 2], [3]])

    def test_a_child_does_not_trap_though_its_parent_does(self):
        self.assertEqual(ask(THREE + [("trap", 1, 1), ("child", 1, 0), ("trap", 4, 0)])[-1], [0])


class Link(unittest.TestCase):

    def test_none_one_that_holds_and_one_that_is_being_cut(self):
        calls = [("link", 1, 2), ("link", 1, 2), ("cut", 1, 2), ("link", 1, 2), ("link", 1, 2)]
        self.assertEqual(ask(THREE + calls)[3:], [[1], [0], [1], [1], [0]])
        world = world_behind(THREE + calls)
        self.assertEqual(world.process(1).links, {2: 0})
        self.assertEqual(world.air, [(1, 2, (1,), 1), (1, 2, (2, 1), 1), (1, 2, (1,), 1)])

    def test_it_is_of_p_alone_till_it_arrives(self):
        world = world_behind(THREE + [("link", 1, 3)])
        self.assertEqual((world.process(1).links, world.process(3).links), ({3: 0}, {}))
        self.assertEqual(world.air, [(1, 3, (1,), 0)])
        self.assertEqual(last(THREE + [("link", 1, 3), ("link", 3, 1)]), [1])

    def test_to_one_that_has_ended(self):
        before = THREE + [("ends", 2, 0)]
        self.assertEqual(ask(before + [("link", 1, 2), ("link", 1, 2)])[-2:], [[1], [0]])
        self.assertEqual(world_behind(before + [("link", 1, 2)]).air, [(1, 2, (1,), 1)])


class Cut(unittest.TestCase):

    def test_none_one_that_holds_and_one_that_is_being_cut(self):
        calls = [("cut", 1, 2), ("link", 1, 2), ("cut", 1, 2), ("cut", 1, 2)]
        self.assertEqual(ask(THREE + calls)[3:], [[0], [1], [1], [0]])
        world = world_behind(THREE + calls)
        self.assertEqual(world.process(1).links, {2: 1})
        self.assertEqual(world.air, [(1, 2, (1,), 1), (1, 2, (2, 1), 1)])

    def test_each_has_a_new_number(self):
        calls = [("link", 1, 2), ("cut", 1, 2), ("link", 1, 2), ("cut", 1, 2)]
        world = world_behind(THREE + calls)
        self.assertEqual(world.process(1).links, {2: 2})
        self.assertEqual(world.air[-1], (1, 2, (2, 2), 1))

    def test_a_link_of_the_other_alone_is_not_cut(self):
        self.assertEqual(last(THREE + [("link", 1, 2), ("cut", 2, 1)]), [0])

    def test_only_one_side_of_a_childs_link_is_cut(self):
        world = world_behind([("start", 2), ("child", 1, 1), ("cut", 2, 1)])
        self.assertEqual((world.process(1).links, world.process(2).links), ({2: 0}, {1: 1}))
        self.assertEqual(world.air, [(2, 1, (2, 1), 0)])

    def test_to_one_that_has_ended(self):
        self.assertEqual(ask(THREE + [("link", 1, 2), ("ends", 2, 5), ("cut", 1, 2), ("cut", 1, 2)])[-2:], [[1], [0]])


class Watch(unittest.TestCase):

    def test_several_of_the_same(self):
        calls = [("watch", 1, 2), ("watch", 1, 2), ("watch", 2, 1)]
        self.assertEqual(ask(THREE + calls)[3:], [[1], [2], [3]])
        world = world_behind(THREE + calls)
        self.assertEqual((world.process(1).watches, world.process(2).watches), ({1: 2, 2: 2}, {3: 1}))
        self.assertEqual((world.process(1).watched_by, world.process(2).watched_by), ({}, {}))
        self.assertEqual(world.air, [(1, 2, (6, 1), 1), (1, 2, (6, 2), 1), (2, 1, (6, 3), 1)])

    def test_one_row_for_cuts_and_watches(self):
        calls = [("watch", 1, 2), ("link", 1, 2), ("cut", 1, 2), ("watch", 3, 2), ("link", 1, 2), ("cut", 1, 2),
                 ("child", 3, 2), ("cut", 1, 2), ("watch", 4, 2)]
        self.assertEqual(ask(THREE + calls)[3:], [[1], [1], [1], [3], [1], [1], [4, 5], [0], [6]])

    def test_a_number_is_not_given_again(self):
        self.assertEqual(last(THREE + [("watch", 1, 2), ("unwatch", 1, 1), ("watch", 1, 2)]), [2])

    def test_refusals_take_none(self):
        calls = [("watch", 1, 1), ("watch", 1, 4), ("watch", 0, 1), ("watch", 1, 2)]
        self.assertEqual(ask(THREE + calls)[3:], [[-1], [-1], [-1], [1]])
        self.assertEqual(ask(THREE + [("ends", 1, 0), ("watch", 1, 2), ("watch", 2, 1)])[-2:], [[-8], [1]])

    def test_of_one_that_has_ended(self):
        self.assertEqual(last(THREE + [("ends", 2, 5), ("watch", 1, 2)]), [1])


class Unwatch(unittest.TestCase):

    def test_one_that_it_has_has_had_and_never_had(self):
        calls = [("watch", 1, 2), ("unwatch", 1, 0), ("unwatch", 1, 2), ("unwatch", 1, 1), ("unwatch", 1, 1),
                 ("unwatch", 1, GREATEST)]
        self.assertEqual(ask(THREE + calls)[3:], [[1], [0], [0], [1], [0], [0]])
        world = world_behind(THREE + calls)
        self.assertEqual(world.process(1).watches, {})
        self.assertEqual(world.air, [(1, 2, (6, 1), 1), (1, 2, (7, 1), 1)])

    def test_anothers(self):
        before = THREE + [("watch", 1, 2), ("watch", 3, 1)]
        for call in (("unwatch", 2, 1), ("unwatch", 3, 1), ("unwatch", 1, 2)):
            with self.subTest(call=call):
                self.assertEqual(last(before + [call]), [0])
                self.assertEqual(picture(world_behind(before + [call])), picture(world_behind(before)))
        self.assertEqual(ask(before + [("unwatch", 3, 2), ("unwatch", 1, 1)])[-2:], [[1], [1]])

    def test_a_cuts_number_is_no_watch(self):
        self.assertEqual(last(THREE + [("link", 1, 2), ("cut", 1, 2), ("unwatch", 1, 1)]), [0])

    def test_one_of_several(self):
        world = world_behind(THREE + [("watch", 1, 2), ("watch", 1, 3), ("watch", 1, 2), ("unwatch", 1, 2)])
        self.assertEqual(list(world.process(1).watches.items()), [(1, 2), (3, 2)])
        self.assertEqual(world.air[-1], (1, 3, (7, 2), 0))

    def test_a_childs_watch_is_taken_back_by_a_signal(self):
        world = world_behind([("start", 1), ("child", 1, 2), ("unwatch", 1, 1)])
        self.assertEqual((world.process(1).watches, world.process(2).watched_by), ({}, {1: 1}))
        self.assertEqual(world.air, [(1, 2, (7, 1), 0)])

    def test_of_one_that_has_ended(self):
        self.assertEqual(last(THREE + [("watch", 1, 2), ("ends", 2, 0), ("unwatch", 1, 1)]), [1])


class Ends(unittest.TestCase):

    def test_answers_and_leaves_it_ended_with_the_why(self):
        for why in (0, 1, 2, 3, 4, 99):
            with self.subTest(why=why):
                self.assertEqual(ask(THREE + [("ends", 2, why), ("ends", 2, why)])[-2:], [[0], [-8]])
                process = world_behind(THREE + [("ends", 2, why)]).process(2)
                self.assertEqual((process.lives, process.why), (False, why))

    def test_trapping_does_not_keep_it(self):
        self.assertEqual(ask(THREE + [("trap", 1, 1), ("ends", 1, 0), ("say", 1, 1, 0)])[-2:], [[0], [-8]])

    def test_others_live_on(self):
        calls = [("child", 1, 1), ("child", 1, 2), ("ends", 1, 9), ("say", 4, 1, 0), ("say", 5, 1, 0), ("say", 2, 1, 0)]
        self.assertEqual(ask(THREE + calls)[-4:], [[0], [0], [0], [0]])

    def test_anothers_link_to_it_holds_till_that_arrives(self):
        self.assertEqual(last([("start", 1), ("child", 1, 1), ("ends", 1, 0), ("link", 2, 1)]), [0])


class Stop(unittest.TestCase):

    def test_is_sent_and_nothing_else_happens(self):
        calls = [("stop", 1, 2, 0), ("stop", 1, 1, 1), ("stop", 1, 3, 99)]
        self.assertEqual(ask(THREE + calls)[3:], [[0], [0], [0]])
        world = world_behind(THREE + calls)
        self.assertEqual(world.air, [(1, 2, (5, 0), 1), (1, 1, (5, 1), 0), (1, 3, (5, 99), 0)])
        self.assertEqual([process.lives for process in world.processes], [True, True, True])

    def test_to_one_that_has_ended(self):
        before = THREE + [("ends", 2, 0), ("stop", 1, 2, 7)]
        self.assertEqual(last(before), [0])
        self.assertEqual(world_behind(before).air, [(1, 2, (5, 7), 1)])


class Trap(unittest.TestCase):

    def test_tells_what_was_till_then(self):
        calls = [("trap", 1, yes) for yes in (1, 1, 0, 0, 1, 0)]
        self.assertEqual(ask(THREE + calls)[3:], [[0], [1], [1], [0], [0], [1]])

    def test_each_for_itself(self):
        self.assertEqual(ask(THREE + [("trap", 1, 1), ("trap", 2, 0), ("trap", 1, 0)])[-2:], [[0], [1]])

    def test_a_refused_one_changes_nothing(self):
        self.assertEqual(ask(THREE + [("trap", 1, 1), ("trap", 1, 2), ("trap", 1, 1)])[-2:], [[-1], [1]])
        self.assertEqual(ask(THREE + [("trap", 1, 2), ("trap", 1, 1)])[-2:], [[-1], [0]])

    def test_sends_nothing(self):
        world = world_behind(THREE + [("trap", 1, 1)])
        self.assertEqual((world.process(1).traps, world.air), (1, []))


class Say(unittest.TestCase):

    def test_any_word_to_another_and_to_itself(self):
        calls = [("say", 1, 2, 0), ("say", 1, 1, GREATEST), ("say", 3, 1, 5)]
        self.assertEqual(ask(THREE + calls)[3:], [[0], [0], [0]])
        self.assertEqual(world_behind(THREE + calls).air,
                         [(1, 2, (0, 0), 1), (1, 1, (0, GREATEST), 0), (3, 1, (0, 5), 0)])

    def test_to_one_that_has_ended(self):
        before = THREE + [("ends", 2, 0), ("say", 1, 2, 7)]
        self.assertEqual(last(before), [0])
        self.assertEqual(world_behind(before).air, [(1, 2, (0, 7), 1)])


class AllTheCalls(unittest.TestCase):

    def test_behind_every_refusal_all_goes_on_as_if_it_had_not_been_asked(self):
        calls = [("start", 1), ("start", 2), ("child", 1, 2), ("child", 2, 1), ("link", 1, 2), ("cut", 1, 2),
                 ("watch", 3, 4), ("unwatch", 1, 1), ("trap", 2, 1), ("stop", 1, 2, 9), ("say", 2, 1, 3),
                 ("ends", 4, 8), ("watch", 1, 4), ("link", 1, 2)]
        refused = [("start", 0), ("child", 1, 3), ("link", 1, 1), ("cut", 9, 1), ("watch", 1, 9), ("unwatch", 0, 1),
                   ("ends", 1, 100), ("stop", 1, 1, 100), ("trap", 1, 2), ("say", 1, 9, 1)]
        for call in refused:
            with self.subTest(call=call):
                mixed = [call]
                for fitting in calls:
                    mixed += [fitting, call]
                self.assertEqual(ask(mixed)[1::2], ask(calls))
                self.assertEqual(picture(world_behind(mixed)), picture(world_behind(calls)))
                self.assertTrue(all(answer == [-1] for answer in ask(mixed)[0::2]))

    def test_each_call_on_a_world_changes_only_that_world(self):
        one = world_behind(THREE)
        other = world_behind(THREE)
        was = picture(other)
        for call in (("link", 1, 2), ("watch", 1, 2), ("trap", 1, 1), ("say", 1, 2, 3), ("ends", 1, 0), ("start", 1)):
            call_on(one, call)
        self.assertEqual(picture(other), was)


if __name__ == "__main__":
    unittest.main()
