"""Point 1: the call net, and the net that a list begins with."""

import unittest

from tests.helper import (MOST, ask, back, channel, check_refused, count, cut, drop, fall, join, lacks, last, look, net,
                          newest, picture, put, shows, take, total, turns)

WHOLE_FIRST_NET = [1, 10, 0, 10, 0, 0, 0]


class FirstNet(unittest.TestCase):
    def test_has_two_processes_with_ten_coins_and_memory_0(self):
        self.assertEqual(last(cut([1, 2]), turns(1), picture(1)), WHOLE_FIRST_NET)

    def test_has_two_channels_there_and_back(self):
        given = ask(put(1, 1, 0), put(2, 2, 0), take(1), take(2), put(3, 0, 0))
        self.assertEqual(given, [[9], [8], [1, 1, 0, 9], [1, 2, 0, 11], [-1]])

    def test_has_nothing_on_its_channels(self):
        self.assertEqual(ask(take(1), take(2), turns(20)), [[-5], [-5], [0]])

    def test_has_no_picture(self):
        self.assertEqual(ask(picture(0), picture(1), lacks(1), join(1, 1)), [[-1], [-1], [-1], [-1]])

    def test_any_call_may_come_first(self):
        self.assertEqual(ask(put(1, 0, 0)), [[10]])
        self.assertEqual(ask(take(1)), [[-5]])
        self.assertEqual(ask(turns(0)), [[0]])
        self.assertEqual(ask(cut([2])), [[1]])
        self.assertEqual(ask(join(1, 1)), [[-1]])
        self.assertEqual(ask(picture(1)), [[-1]])
        self.assertEqual(ask(lacks(1)), [[-1]])
        self.assertEqual(ask(count(1)), [[-1]])
        self.assertEqual(ask(fall(2)), [[10]])
        self.assertEqual(ask(back(1)), [[-1]])
        self.assertEqual(ask(drop(1)), [[-1]])
        self.assertEqual(ask(shows()), [[10, 0, 0, 10, 0, 0]])
        self.assertEqual(ask(channel(2)), [[0]])
        self.assertEqual(ask(total()), [[20, 0]])
        self.assertEqual(ask(newest()), [[0]])
        self.assertEqual(ask(net([1, 2], [2, 2])), [[1]])


class NewNet(unittest.TestCase):
    def test_answers_how_many_channels_there_are(self):
        self.assertEqual(ask(net([0, 0], [1, 2])), [[1]])
        self.assertEqual(ask(net([3, 4, 5], [1, 2, 2, 3, 3, 1])), [[3]])

    def test_purses_are_as_told_and_memories_0(self):
        given = last(net([3, 0, 1000], [1, 2, 2, 3, 3, 1]), cut([1, 2, 3]), turns(1), picture(1))
        self.assertEqual(given, [1, 3, 0, 0, 0, 1000, 0, 0, 0, 0])

    def test_channels_go_as_told(self):
        given = ask(net([5, 6, 7], [3, 1, 2, 2]), put(1, 7, 0), take(1), put(2, 6, 0), take(2), put(3, 0, 0))
        self.assertEqual(given, [[2], [0], [1, 7, 0, 12], [0], [1, 6, 0, 6], [-1]])

    def test_called_again_all_is_new(self):
        before = [put(1, 4, 3), take(1), cut([1]), cut([2]), put(1, 1, 0)]
        given = ask(*before, net([10, 10], [1, 2, 2, 1]), take(1), take(2), lacks(1), picture(2),
                    cut([1, 2]), turns(1), picture(1))
        self.assertEqual(given[5:], [[2], [-5], [-5], [-1], [-1], [1], [2], WHOLE_FIRST_NET])

    def test_called_again_the_next_picture_is_1(self):
        given = ask(cut([1]), cut([1]), net([1, 1], [1, 2]), cut([1]), net([1, 1], [1, 2]), cut([1]), cut([2]))
        self.assertEqual(given, [[1], [2], [1], [1], [1], [1], [2]])

    def test_called_again_all_is_as_in_a_first_net(self):
        before = [put(1, 4, 2), cut([1, 2]), turns(3), put(2, 1, 0), cut([1]), fall(2), put(1, 1, 1)]
        for made in ([cut([1])], [back(1)], [drop(1)], [fall(1)]):
            given = ask(*before, *made, net([10, 10], [1, 2, 2, 1]), *look(), turns(4), picture(1))
            self.assertEqual(given[len(before) + 2:], ask(*look(), turns(4), picture(1)))

    def test_called_again_with_fewer_or_more(self):
        given = ask(net([1] * 8, [8, 1] * 16), put(16, 1, 0), net([2, 3], [2, 1]), put(2, 0, 0), put(1, 3, 0),
                    cut([3]), net([4, 5, 6], [3, 3, 1, 2]), put(1, 6, 0), cut([3]))
        self.assertEqual(given, [[16], [0], [1], [-1], [0], [-1], [2], [0], [1]])


class NetRefusals(unittest.TestCase):
    def test_2_to_8_purses(self):
        self.assertEqual(last(net([], [1, 2])), [-1])
        self.assertEqual(last(net([5], [1, 1])), [-1])
        self.assertEqual(last(net([5, 5], [1, 1])), [1])
        self.assertEqual(last(net([5] * 8, [1, 8])), [1])
        self.assertEqual(last(net([5] * 9, [1, 8])), [-1])
        self.assertEqual(last(net([5] * 29000, [1, 8])), [-1])

    def test_at_most_1000_coins(self):
        self.assertEqual(last(net([1000, 1000], [1, 2])), [1])
        self.assertEqual(last(net([1001, 0], [1, 2])), [-2])
        self.assertEqual(last(net([0, 1001], [1, 2])), [-2])
        self.assertEqual(last(net([0, 0, 0, MOST], [1, 2])), [-2])

    def test_2_to_32_ends_an_even_number(self):
        for length, answer in ((0, -3), (1, -3), (2, 1), (3, -3), (4, 2), (31, -3), (32, 16), (33, -3), (34, -3),
                               (28999, -3), (29000, -3)):
            with self.subTest(length=length):
                self.assertEqual(last(net([1, 1], [1] * length)), [answer])

    def test_an_end_is_a_process(self):
        for ends in ([0, 1], [1, 0], [3, 1], [1, 3], [1, 2, 2, 3], [MOST, 1], [1, MOST]):
            with self.subTest(ends=ends):
                self.assertEqual(last(net([1, 1], ends)), [-4])
        self.assertEqual(last(net([1, 1], [1, 2])), [1])
        self.assertEqual(last(net([1] * 8, [8, 8])), [1])
        self.assertEqual(last(net([1] * 8, [8, 9])), [-4])

    def test_of_several_the_one_told_first(self):
        self.assertEqual(last(net([], [])), [-1])
        self.assertEqual(last(net([1001], [0])), [-1])
        self.assertEqual(last(net([MOST] * 9, [0, 99])), [-1])
        self.assertEqual(last(net([1001, 1], [])), [-2])
        self.assertEqual(last(net([1001, 1], [0, 9])), [-2])
        self.assertEqual(last(net([1, 1], [0])), [-3])
        self.assertEqual(last(net([1, 1], [0, 9, 0])), [-3])
        self.assertEqual(last(net([1, 1], [9] * 34)), [-3])

    def test_all_is_as_it_was(self):
        for before in ([put(1, 3, 2), cut([2]), put(2, 1, 1)],
                       [put(1, 3, 2), cut([1, 2]), turns(2), cut([2]), fall(1)]):
            check_refused(self, before, net([1], [1, 1]), -1)
            check_refused(self, before, net([1, 2000], [1, 1]), -2)
            check_refused(self, before, net([1, 1], [1]), -3)
            check_refused(self, before, net([1, 1], [3, 1]), -4)


if __name__ == "__main__":
    unittest.main()
