"""The interface: what is handed in, what is given back, and that nothing is kept."""

import contextlib
import io
import unittest

from asking import GREATEST, flat
from partednodes.world import answers


class Unchanging(list):

    def refuse(self, *values):
        raise AssertionError("the list that was handed in is changed")

    append = extend = insert = pop = remove = clear = sort = reverse = refuse
    __setitem__ = __delitem__ = __iadd__ = __imul__ = refuse


class Interface(unittest.TestCase):

    def test_each_call_by_its_number(self):
        calls = [0, 1,
                 1, 1, 2,
                 2, 1, 2,
                 3, 1, 2,
                 4, 1, 2,
                 5, 1, 3,
                 6, 2, 99,
                 7, 1, 2, 50,
                 8, 1, 1,
                 9, 1, 1, GREATEST,
                 10, 2, 1,
                 11, 1000,
                 12, 1,
                 13, 1,
                 14,
                 15, 3, 1,
                 16, 1, 3,
                 17, 3, 1,
                 18]
        self.assertEqual(answers(calls), [1, 1,
                                          2, 2, 1,
                                          1, 1,
                                          1, 1,
                                          1, 3,
                                          1, 1,
                                          1, 0,
                                          1, 0,
                                          1, 0,
                                          1, 0,
                                          4, 8, 1, 99, 1,
                                          1, 9,
                                          7, 2, 2, 1, 99, 0, 1, GREATEST,
                                          7, 1, 1, 0, 1, 0, 0, 0,
                                          1, 0,
                                          1, 0,
                                          1, 2,
                                          1, 4,
                                          9, 1, 1, 0, 4, 4, 0, 3, 3, 0])

    def test_how_many_numbers_each_signal_is_told_with(self):
        # 1 and 2 on node 1; what is on its way from 1 to 2 and back, one of each signal that a call can send.
        before = [("start", 1), ("start", 1), ("say", 1, 2, 5), ("link", 1, 2), ("cut", 1, 2), ("watch", 1, 2),
                  ("unwatch", 1, 2), ("stop", 1, 2, 0), ("watch", 2, 1), ("deliver", 2, 1), ("link", 1, 2),
                  ("ends", 1, 0)]
        told = answers(flat(before + [("air",)]))
        self.assertEqual(told[-46:], [45, 9,
                                      1, 2, 0, 5, 0,
                                      1, 2, 1, 0,
                                      1, 2, 2, 1, 0,
                                      1, 2, 6, 2, 0,
                                      1, 2, 7, 2, 0,
                                      1, 2, 5, 0, 0,
                                      1, 2, 1, 0,
                                      1, 2, 4, 0, 0,
                                      1, 2, 8, 3, 0, 0])

    def test_a_refusal_is_alone(self):
        self.assertEqual(answers([0, 0]), [1, -1])
        self.assertEqual(answers([1, 1, 2]), [1, -1])
        self.assertEqual(answers([0, 1, 1, 1, 3, 1, 1, 2]), [1, 1, 1, -1, 2, 2, 1])
        self.assertEqual(answers([0, 1] * 12 + [1, 1, 2])[24:], [1, -6])
        self.assertEqual(answers([0, 1, 6, 1, 0, 1, 1, 0]), [1, 1, 1, 0, 1, -8])

    def test_a_refused_call_takes_as_many_numbers_as_one_that_fits(self):
        calls = [0, 4, 1, 9, 0, 2, 9, 1, 3, 9, 1, 4, 9, 1, 5, 9, 1, 6, 9, 1, 7, 9, 1, 1, 8, 9, 1, 9, 9, 1, 1,
                 10, 9, 9, 11, 1001, 12, 9, 13, 9, 15, 9, 9, 16, 9, 9, 17, 9, 9, 0, 3]
        self.assertEqual(answers(calls), [1, -1] * 17 + [1, 1])

    def test_the_greatest_number_for_each_value(self):
        greatest = GREATEST
        calls = [0, 1, 0, greatest,
                 1, greatest, 0, 1, 1, greatest,
                 2, greatest, 1, 2, 1, greatest,
                 3, greatest, 1, 3, 1, greatest,
                 4, greatest, 1, 4, 1, greatest,
                 5, greatest, 1, 5, 1, greatest,
                 6, greatest, 1, 6, 1, greatest,
                 7, greatest, 1, 1, 7, 1, greatest, 1, 7, 1, 1, greatest,
                 8, greatest, 1, 8, 1, greatest,
                 9, greatest, 1, 1, 9, 1, greatest, 1, 9, 1, 1, greatest,
                 10, greatest, 1, 10, 1, greatest,
                 11, greatest,
                 12, greatest,
                 13, greatest,
                 15, greatest, 1, 15, 1, greatest,
                 16, greatest, 1, 16, 1, greatest,
                 17, greatest, 1, 17, 1, greatest]
        self.assertEqual(answers(calls)[1::2],
                         [1, -1, -1, -1, -1, -1, -1, -1, -1, -1, -1, 0, -1, -1, -1, -1, -1, -1, -1, -1, -1, 0]
                         + [-1] * 11)

    def test_the_list_handed_in_stays_as_it_was(self):
        calls = flat([("start", 1), ("child", 1, 2), ("watch", 2, 1), ("start", 9), ("ends", 2, 5), ("say", 1, 2, 0),
                      ("deliver", 2, 1), ("turns", 5), ("box", 1), ("process", 1), ("air",), ("break", 1, 2),
                      ("notice", 1, 2), ("join", 1, 2), ("wires",)])
        was = list(calls)
        answers(calls)
        self.assertEqual(calls, was)
        # Not for a while either: each change of this one fails.
        self.assertEqual(answers(Unchanging(calls)), answers(calls))

    def test_what_is_given_back_is_not_what_was_handed_in(self):
        calls = [0, 1]
        told = answers(calls)
        told.append(5)
        self.assertEqual(calls, [0, 1])
        self.assertEqual(answers(calls), [1, 1])

    def test_the_same_list_twice_gives_the_same(self):
        lists = [flat([("start", 1), ("child", 1, 2), ("link", 1, 2), ("cut", 1, 2), ("watch", 2, 1), ("trap", 1, 1),
                       ("ends", 2, 5), ("say", 1, 2, 0), ("turns", 3), ("air",), ("box", 1)]),
                 flat([("start", 1), ("start", 2), ("trap", 1, 1), ("link", 1, 2), ("join", 1, 2), ("break", 1, 2),
                       ("notice", 2, 1), ("link", 2, 1), ("turns", 2), ("process", 2), ("box", 1), ("wires",)]),
                 flat([("start", 3)] * 13),
                 flat([("start", 2), ("trap", 1, 0), ("ends", 1, 1), ("ends", 1, 1)])]
        first = [answers(calls) for calls in lists]
        self.assertEqual([answers(calls) for calls in lists], first)
        self.assertEqual([answers(calls) for calls in reversed(lists)], first[::-1])

    def test_a_list_and_whole_numbers_alone(self):
        told = answers(flat([("start", 1), ("child", 1, 1), ("child", 1, 2), ("link", 1, 2), ("cut", 1, 2),
                             ("watch", 1, 2), ("unwatch", 1, 1), ("trap", 1, 1), ("trap", 1, 0), ("stop", 1, 2, 0),
                             ("say", 1, 2, 3), ("ends", 1, 0), ("ends", 1, 0), ("start", 0), ("process", 1),
                             ("process", 2), ("air",), ("deliver", 1, 2), ("join", 1, 2), ("turns", 1000), ("box", 2),
                             ("wires",), ("break", 1, 3), ("notice", 3, 1), ("wires",), ("process", 3)]))
        self.assertIs(type(told), list)
        self.assertEqual({type(number) for number in told}, {int})

    def test_the_longest_list(self):
        calls = [("start", 1), ("start", 2)] + [("watch", 1, 2)] * 98
        self.assertEqual(answers(flat(calls)), [1, 1, 1, 2] + [part for k in range(98) for part in (1, k + 1)])

    def test_it_prints_nothing(self):
        out = io.StringIO()
        with contextlib.redirect_stdout(out), contextlib.redirect_stderr(out):
            answers([0, 1, 1, 1, 2, 6, 1, 5, 0, 9, 14, 11, 1000, 12, 1, 13, 2, 15, 1, 2, 16, 2, 1, 17, 1, 2, 18])
        self.assertEqual(out.getvalue(), "")


if __name__ == "__main__":
    unittest.main()
