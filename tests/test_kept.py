"""Point 7: drop, and newest: which pictures are kept, and which of them is the last whole one."""

import unittest

from tests.helper import (MOST, ask, ask_behind, back, channel, check_refused, count, cut, drop, fall, join, lacks, net,
                          newest, picture, put, shows, take, turns)


class Drop(unittest.TestCase):
    def test_answers_how_many_are_kept_then(self):
        self.assertEqual(ask(cut([1]), drop(1)), [[1], [0]])
        given = ask(cut([1]), cut([2]), cut([1, 2]), drop(2), drop(3), cut([1]), drop(1), drop(4))
        self.assertEqual(given[3:], [[2], [1], [4], [1], [0]])

    def test_whole_or_not(self):
        given = ask(cut([1, 2]), turns(1), cut([1]), drop(1), lacks(2), drop(2))
        self.assertEqual(given[3:], [[1], [1, 2, 2, 1, 2], [0]])

    def test_every_call_refuses_a_dropped_picture(self):
        for before in ([cut([1, 2]), turns(1), drop(1)], [cut([1]), drop(1)]):
            given = ask_behind(before, lacks(1), picture(1), count(1), join(1, 2), drop(1), back(1), newest())
            self.assertEqual(given, [[-1]] * 6 + [[0]])

    def test_the_others_are_as_they_were(self):
        before = [put(1, 3, 0), cut([1, 2]), cut([1]), cut([2]), turns(4)]
        kept = ask_behind(before, picture(1), picture(3), lacks(1), lacks(3), count(1), count(3))
        self.assertEqual(ask_behind(before + [drop(2)], picture(1), picture(3), lacks(1), lacks(3), count(1), count(3)),
                         kept)

    def test_touches_no_process_and_no_channel(self):
        before = [put(1, 3, 1), cut([1]), put(1, 2, 0), fall(2)]
        self.assertEqual(ask_behind(before + [drop(1)], shows(), channel(1), channel(2)),
                         ask_behind(before, shows(), channel(1), channel(2)))

    def test_its_number_is_not_given_again(self):
        self.assertEqual(ask(cut([1]), drop(1), cut([1]), drop(2), cut([1])), [[1], [0], [2], [0], [3]])

    def test_a_ninth_picture_behind_it(self):
        given = ask(*[cut([1])] * 8, cut([1]), drop(5), cut([1]), cut([1]), lacks(5), lacks(9))
        self.assertEqual(given[8:], [[-7], [7], [9], [-7], [-1], [1, 2, 2, 1, 2]])


class MarksOfADroppedPicture(unittest.TestCase):
    def test_stay_on_the_channels(self):
        self.assertEqual(ask(cut([1, 2]), drop(1), channel(1), channel(2))[2:], [[1, 2, 1], [1, 2, 1]])

    def test_taken_by_take_nothing_happens(self):
        given = ask(cut([1]), drop(1), take(1), channel(1), channel(2), shows(), lacks(1))
        self.assertEqual(given[2:], [[2, 1, 0], [0], [0], [10, 0, 0, 10, 0, 0], [-1]])

    def test_taken_by_turns_they_count_and_nothing_happens(self):
        given = ask(cut([1]), drop(1), turns(1), channel(1), channel(2), turns(20))
        self.assertEqual(given[2:], [[1], [0], [0], [0]])

    def test_are_no_deeds(self):
        self.assertEqual(ask(cut([1]), drop(1), take(1), cut([1]), count(2))[4], [0, 0])

    def test_beside_those_of_a_kept_one(self):
        given = ask(cut([1]), cut([1]), drop(1), take(1), lacks(2), take(1), lacks(2), take(2), picture(2))
        self.assertEqual(given[3:], [[2, 1, 0], [1, 2, 2, 1, 2], [2, 2, 1], [0, 1, 2], [2, 2, 0],
                                     [1, 10, 0, 10, 0, 0, 0]])

    def test_messages_behind_them_are_taken_as_ever(self):
        given = ask(cut([1]), put(1, 3, 0), drop(1), take(1), take(1))
        self.assertEqual(given[3:], [[2, 1, 0], [1, 3, 0, 13]])

    def test_a_later_picture_does_not_take_them_for_its_own(self):
        given = ask(cut([1]), drop(1), cut([2]), take(1), lacks(2), take(2), take(1), picture(2))
        self.assertEqual(given[3:], [[2, 1, 0], [1, 1, 2, 1, 2], [2, 2, 1], [2, 2, 0], [1, 10, 0, 10, 0, 0, 0]])


class DropRefusals(unittest.TestCase):
    def test_picture_is_not_kept(self):
        self.assertEqual(ask(drop(0)), [[-1]])
        self.assertEqual(ask(drop(1), cut([1]), drop(0), drop(2), drop(MOST), drop(1), drop(1)),
                         [[-1], [1], [-1], [-1], [-1], [0], [-1]])
        self.assertEqual(ask(cut([1, 2]), turns(1), cut([1]), back(1), drop(2), drop(1))[4:], [[-1], [0]])

    def test_all_is_as_it_was(self):
        before = [put(1, 3, 1), cut([1, 2]), turns(3), cut([1]), cut([2]), drop(2)]
        for k in (0, 2, 4, MOST):
            check_refused(self, before, drop(k), -1)


class Newest(unittest.TestCase):
    def test_none_is_whole(self):
        self.assertEqual(ask(newest()), [[0]])
        self.assertEqual(ask(cut([1]), newest(), cut([1, 2]), take(1), take(1), newest()),
                         [[1], [0], [2], [2, 1, 1], [2, 2, 0], [0]])

    def test_the_greatest_of_several(self):
        given = ask(cut([1, 2]), turns(1), newest(), cut([1, 2]), newest(), turns(1), newest(), cut([1]), newest())
        self.assertEqual(given[2::2], [[1], [1], [2], [2]])

    def test_whole_all_at_once(self):
        self.assertEqual(ask(*[cut([1, 2])] * 8, turns(8), newest())[9], [8])

    def test_with_one_between_that_is_not_whole(self):
        given = ask(net([1, 2], [1, 1]), cut([1, 2]), cut([1]), cut([1, 2]), cut([2]), turns(20), newest(), join(2, 2),
                    newest(), join(4, 1), newest(), turns(1), newest())
        self.assertEqual(given[6::2], [[3], [3], [3], [4]])

    def test_behind_drop(self):
        given = ask(*[cut([1, 2])] * 3, turns(3), drop(2), newest(), drop(3), newest(), drop(1), newest())
        self.assertEqual(given[5::2], [[3], [1], [0]])

    def test_behind_back(self):
        given = ask(*[cut([1, 2])] * 3, turns(3), cut([1]), back(1), newest(), drop(3), newest(), cut([1, 2]), newest(),
                    turns(1), newest(), back(2), newest())
        self.assertEqual(given[6::2], [[3], [2], [2], [5], [5]])

    def test_behind_net(self):
        self.assertEqual(ask(cut([1, 2]), turns(1), newest(), net([1, 1], [1, 2]), newest())[2:], [[1], [1], [0]])


if __name__ == "__main__":
    unittest.main()
