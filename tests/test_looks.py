"""The calls that only look: shows, channel (point 8) and total."""

import unittest

from tests.helper import (MOST, ask, ask_behind, back, channel, check_refused, cut, drop, fall, net, newest, put, shows,
                          take, total, turns)


class Shows(unittest.TestCase):
    def test_first_net(self):
        self.assertEqual(ask(shows()), [[10, 0, 0, 10, 0, 0]])

    def test_three_numbers_for_each_process(self):
        self.assertEqual(ask(net([5, 0, 1000], [1, 2]), shows())[1], [5, 0, 0, 0, 0, 0, 1000, 0, 0])
        self.assertEqual(ask(net(list(range(1, 9)), [1, 2]), shows())[1],
                         [number for p in range(1, 9) for number in (p, 0, 0)])

    def test_behind_put_and_take(self):
        # put: 101 + 7 + 4 = 112; got: 31 * 112 + 112 = 3584; 7 of 14 sent on: 31 * 3584 + 202 + 7 - 65521 = 45792
        given = ask(put(1, 4, 1), shows(), take(1), shows(), turns(1), shows())
        self.assertEqual(given[1], [6, 112, 0, 10, 0, 0])
        self.assertEqual(given[3], [6, 112, 0, 7, 45792, 0])
        # 31 * (112 + 45792) + 202 + 7 - 21 * 65521 = 47292
        self.assertEqual(given[5], [13, 47292, 0, 7, 45792, 0])

    def test_behind_fall(self):
        self.assertEqual(ask(put(2, 4, 0), fall(2), shows(), fall(1), shows())[2::2],
                         [[10, 0, 0, 0, 0, 1], [0, 0, 1, 0, 0, 1]])

    def test_marks_and_records_change_nothing(self):
        self.assertEqual(ask(cut([1]), shows(), turns(20), shows())[1::2], [[10, 0, 0, 10, 0, 0]] * 2)


class Channel(unittest.TestCase):
    def test_nothing_on_it(self):
        self.assertEqual(ask(channel(1)), [[0]])
        self.assertEqual(ask(put(1, 1, 0), take(1), channel(1), channel(2))[2:], [[0], [0]])

    def test_messages_and_marks_the_first_first(self):
        given = ask(put(1, 3, 0), cut([1]), put(1, 2, 3), cut([2]), cut([1]), put(1, 0, 1), channel(1), channel(2))
        # 101 + 3 = 104; 31 * 104 + 101 + 21 + 2 = 3348; 31 * 3348 + 101 + 7 - 65521 = 38375
        self.assertEqual(given[6], [5, 1, 3, 104, 0, 2, 1, 1, 2, 3348, 3, 2, 3, 1, 0, 38375, 1])
        self.assertEqual(given[7], [1, 2, 2])

    def test_what_is_taken_is_gone(self):
        given = ask(put(1, 3, 0), cut([1]), put(1, 2, 3), take(1), channel(1), take(1), channel(1), channel(2))
        self.assertEqual(given[4::2], [[2, 2, 1, 1, 2, 3348, 3], [1, 1, 2, 3348, 3]])
        self.assertEqual(given[7], [1, 2, 1])

    def test_what_is_sent_on(self):
        self.assertEqual(ask(put(1, 4, 1), take(1), channel(1), channel(2))[2:], [[0], [1, 1, 7, 45792, 0]])

    def test_cut_puts_marks_in_the_order_told(self):
        given = ask(net([1, 2], [1, 2, 1, 1, 2, 1]), cut([2, 1]), cut([1]), channel(1), channel(2), channel(3))
        self.assertEqual(given[3:], [[2, 2, 1, 2, 2], [2, 2, 1, 2, 2], [1, 2, 1]])

    def test_each_channel_by_itself(self):
        given = ask(net([9, 9], [1, 2] * 16), put(16, 5, 0), channel(1), channel(15), channel(16))
        # 1616 + 5
        self.assertEqual(given[2:], [[0], [0], [1, 1, 5, 1621, 0]])

    def test_no_such_channel(self):
        self.assertEqual(ask(channel(0)), [[-1]])
        self.assertEqual(ask(channel(3), channel(MOST), channel(2)), [[-1], [-1], [0]])
        self.assertEqual(ask(net([1, 1], [1, 2]), channel(2), channel(1)), [[1], [-1], [0]])
        self.assertEqual(ask(net([1, 1], [1, 2] * 16), channel(17), channel(16)), [[16], [-1], [0]])

    def test_all_is_as_it_was(self):
        for c in (0, 3, MOST):
            check_refused(self, [put(1, 3, 1), cut([1]), fall(2)], channel(c), -1)


class Total(unittest.TestCase):
    def test_first_net(self):
        self.assertEqual(ask(total()), [[20, 0]])

    def test_in_purses_and_on_channels(self):
        given = ask(put(1, 3, 0), put(2, 4, 2), total(), take(1), total(), turns(20), total())
        self.assertEqual(given[2::2], [[13, 7], [16, 4], [20, 0]])

    def test_what_is_sent_on(self):
        self.assertEqual(ask(put(1, 4, 1), take(1), total())[2], [13, 7])

    def test_marks_have_no_coins(self):
        self.assertEqual(ask(cut([1, 2]), put(1, 1, 0), cut([1]), total())[3], [19, 1])

    def test_behind_fall_and_back(self):
        given = ask(put(1, 3, 0), cut([1, 2]), turns(2), fall(2), total(), back(1), total(), put(2, 1, 0), total())
        self.assertEqual(given[4::2], [[7, 0], [17, 3], [16, 4]])

    def test_pictures_have_no_coins_of_their_own(self):
        self.assertEqual(ask(cut([1, 2]), turns(1), cut([1]), total(), drop(1), total())[3::2], [[20, 0], [20, 0]])

    def test_greatest_purses(self):
        given = ask(net([1000] * 8, [1, 2]), total(), put(1, 1000, 0), total())
        self.assertEqual(given[1::2], [[8000, 0], [7000, 1000]])


class LookingChangesNothing(unittest.TestCase):
    def test_between_all_calls(self):
        calls = [put(1, 4, 2), cut([1]), take(1), put(2, 1, 0), cut([2]), turns(2), fall(1), turns(1), back(2), back(1),
                 turns(20), shows(), channel(1), channel(2)]
        for looks in ([shows(), channel(1), channel(2)], [channel(9), total(), newest()]):
            given = ask(*[part for call in calls for part in [call] + looks])
            self.assertEqual(given[::len(looks) + 1], ask(*calls))

    def test_asked_twice(self):
        before = [put(1, 4, 2), cut([1]), take(1)]
        for call in (shows(), channel(1), channel(2), total(), newest()):
            given = ask_behind(before, call, call)
            self.assertEqual(given[0], given[1])


if __name__ == "__main__":
    unittest.main()
