"""Point 8: fall, and what it means for all other calls: -6 of points 2, 3, 5 and 6, and turns."""

import unittest

from tests.helper import (MOST, ask, ask_behind, back, channel, check_refused, count, cut, fall, join, lacks, net,
                          newest, picture, put, shows, take, total, turns)

RING = net([7, 8, 9], [1, 2, 2, 3, 3, 1])


class Fall(unittest.TestCase):
    def test_answers_the_coins_that_are_lost(self):
        self.assertEqual(ask(fall(1)), [[10]])
        self.assertEqual(ask(put(2, 3, 0), take(2), fall(1), fall(2)), [[7], [1, 3, 0, 13], [13], [7]])
        self.assertEqual(ask(net([0, 1000], [1, 2]), fall(1), fall(2)), [[1], [0], [1000]])

    def test_purse_and_memory_are_0_behind_it(self):
        # 101 + 3 = 104
        given = ask(put(1, 3, 0), shows(), fall(1), shows())
        self.assertEqual(given, [[7], [7, 104, 0, 10, 0, 0], [7], [0, 0, 1, 10, 0, 0]])

    def test_the_others_are_as_they_were(self):
        self.assertEqual(ask(RING, fall(2), shows()), [[3], [8], [7, 0, 0, 0, 0, 1, 9, 0, 0]])
        self.assertEqual(ask(RING, fall(3), fall(1), shows())[3], [0, 0, 1, 8, 0, 0, 0, 0, 1])

    def test_total_tells_what_was_lost(self):
        given = ask(put(1, 3, 0), put(2, 4, 0), total(), fall(1), total(), fall(2), total())
        self.assertEqual(given[2:], [[13, 7], [7], [6, 7], [6], [0, 7]])

    def test_what_is_on_the_channels_stays(self):
        before = [put(1, 3, 1), put(2, 4, 0), cut([1, 2]), put(1, 1, 2)]
        on_them = ask_behind(before, channel(1), channel(2))
        # 101 + 7 + 3 = 111; 31 * 111 + 101 + 14 + 1 = 3557; 202 + 4 = 206
        self.assertEqual(on_them, [[3, 1, 3, 111, 1, 2, 1, 1, 1, 3557, 2], [2, 1, 4, 206, 0, 2, 1]])
        self.assertEqual(ask_behind(before + [fall(1)], channel(1), channel(2)), on_them)
        self.assertEqual(ask_behind(before + [fall(2), fall(1)], channel(1), channel(2)), on_them)

    def test_what_it_had_put_is_taken_by_the_others(self):
        given = ask(put(1, 3, 0), cut([1]), fall(1), take(1), take(1), take(1), shows())
        # 31 * 104 + 101 + 3 = 3328
        self.assertEqual(given[2:], [[7], [1, 3, 0, 13], [2, 1, 1], [-5], [0, 0, 1, 13, 3328, 0]])

    def test_its_record_stays_with_the_picture(self):
        given = ask(RING, put(1, 3, 0), cut([1]), fall(1), lacks(1), turns(20), lacks(1), picture(1))
        # the mark on channel 3 goes to it and stays there
        self.assertEqual(given[2:], [[1], [4], [2, 2, 3, 3, 1, 2, 3], [3], [0, 1, 3], [0]])

    def test_a_picture_becomes_whole_behind_it(self):
        given = ask(net([7, 8], [1, 2]), put(1, 3, 0), cut([1]), fall(1), turns(2), picture(1), newest(), back(1),
                    shows())
        self.assertEqual(given[3:], [[4], [2], [1, 4, 104, 11, 3328, 0], [1], [15], [4, 104, 0, 11, 3328, 0]])

    def test_is_no_deed(self):
        self.assertEqual(ask(cut([1]), fall(2), fall(1), count(1))[3], [0, 0])

    def test_a_channel_to_itself(self):
        given = ask(net([9, 5], [1, 1]), put(1, 4, 1), fall(1), take(1), put(1, 0, 0), turns(20), channel(1), total())
        # 101 + 7 + 4 = 112
        self.assertEqual(given[2:], [[5], [-6], [-6], [0], [1, 1, 4, 112, 1], [5, 4]])


class FallRefusals(unittest.TestCase):
    def test_no_such_process(self):
        self.assertEqual(ask(fall(0)), [[-1]])
        self.assertEqual(ask(fall(3), fall(MOST)), [[-1], [-1]])
        self.assertEqual(ask(net([1] * 8, [1, 2]), fall(9), fall(8)), [[1], [-1], [1]])

    def test_it_is_down(self):
        self.assertEqual(ask(fall(2), fall(2), fall(1), fall(2), fall(1)), [[10], [-6], [10], [-6], [-6]])

    def test_all_is_as_it_was(self):
        before = [put(1, 3, 1), cut([2]), put(2, 1, 0)]
        for p in (0, 3, MOST):
            check_refused(self, before, fall(p), -1)
        check_refused(self, before + [fall(2)], fall(2), -6)


class PutFromOneThatIsDown(unittest.TestCase):
    def test_is_refused(self):
        self.assertEqual(ask(fall(1), put(1, 0, 0), put(1, 0, 3), put(2, 1, 0)), [[10], [-6], [-6], [9]])
        self.assertEqual(ask(fall(2), put(2, 0, 0), put(1, 4, 0), put(1, 6, 0)), [[10], [-6], [6], [0]])

    def test_order(self):
        given = ask(fall(1), put(0, MOST, MOST), put(3, 1, 4), put(1, 1, 4), put(1, 0, MOST), put(1, 1, 0),
                    put(2, 11, 4), put(2, 11, 3))
        self.assertEqual(given, [[10], [-1], [-1], [-6], [-6], [-6], [-2], [-3]])

    def test_all_is_as_it_was(self):
        before = [put(1, 3, 1), cut([2]), put(2, 1, 0), fall(1)]
        check_refused(self, before, put(1, 0, 0), -6)
        check_refused(self, before, put(1, 1, 4), -6)


class TakeByOneThatIsDown(unittest.TestCase):
    def test_is_refused(self):
        before = [put(1, 3, 0), put(2, 2, 0), fall(1)]
        self.assertEqual(ask_behind(before, take(2), take(1), channel(2)), [[-6], [1, 3, 0, 11], [1, 1, 2, 204, 0]])

    def test_a_mark(self):
        given = ask(cut([2]), fall(1), take(2), channel(2), lacks(1))
        self.assertEqual(given[2:], [[-6], [1, 2, 1], [1, 1, 2, 1, 2]])

    def test_order(self):
        self.assertEqual(ask(fall(1), take(0), take(3), take(MOST), take(2), take(1)),
                         [[10], [-1], [-1], [-1], [-6], [-5]])

    def test_all_is_as_it_was(self):
        check_refused(self, [put(1, 3, 1), put(2, 1, 2), cut([2]), fall(1)], take(2), -6)
        check_refused(self, [put(1, 3, 1), fall(1)], take(2), -6)


class TurnsPastOneThatIsDown(unittest.TestCase):
    def test_what_goes_to_it_stays_and_the_rest_is_taken(self):
        before = [put(1, 3, 0), put(1, 2, 0), put(2, 2, 0), put(2, 1, 0), fall(1)]
        given = ask_behind(before, turns(1), channel(1), turns(20), channel(1), channel(2), turns(20))
        # 101 + 3 = 104, 31 * 104 + 101 + 2 = 3327; 202 + 2 = 204, 31 * 204 + 202 + 1 = 6527
        self.assertEqual(given, [[1], [1, 1, 2, 3327, 0], [1], [0], [2, 1, 2, 204, 0, 1, 1, 6527, 0], [0]])

    def test_what_is_sent_on_to_it_stays(self):
        given = ask(put(1, 4, 3), fall(1), turns(20), total(), shows())
        # 14 // 2 of process 2 stay on channel 2
        self.assertEqual(given[1:4], [[6], [1], [7, 7]])
        self.assertEqual(given[4][:3], [0, 0, 1])

    def test_marks_go_round_it(self):
        given = ask(net([1, 2, 3], [1, 2, 2, 3, 3, 1, 1, 3]), cut([1]), fall(2), turns(20), lacks(1), channel(1))
        self.assertEqual(given[3:], [[2], [1, 2, 2, 1, 2], [1, 2, 1]])

    def test_all_are_down(self):
        given = ask(put(1, 3, 0), cut([2]), fall(1), fall(2), turns(20), take(1), take(2), channel(1), channel(2))
        self.assertEqual(given[4:], [[0], [-6], [-6], [1, 1, 3, 104, 0], [1, 2, 1]])

    def test_too_many_rounds(self):
        check_refused(self, [put(1, 3, 0), put(2, 1, 0), fall(1)], turns(21), -2)


class CutWithOneThatIsDown(unittest.TestCase):
    def test_is_refused(self):
        given = ask(fall(2), cut([2]), cut([1, 2]), cut([2, 1]), cut([1]))
        self.assertEqual(given, [[10], [-6], [-6], [-6], [1]])
        self.assertEqual(ask(RING, fall(2), cut([1, 3, 2]), cut([3, 1]))[2:], [[-6], [1]])

    def test_order(self):
        given = ask(fall(2), cut([]), cut([2, 2]), cut([2, 3]), cut([3, 2]), cut([2, 0]), cut([2, MOST]))
        self.assertEqual(given, [[10], [-1], [-1], [-1], [-1], [-1], [-1]])
        given = ask(fall(2), *[cut([1]) for k in range(8)], cut([2]), cut([1, 2]), cut([2, 2]), cut([1]))
        self.assertEqual(given[9:], [[-6], [-6], [-1], [-7]])

    def test_all_is_as_it_was(self):
        before = [put(1, 3, 1), cut([1]), fall(2)]
        check_refused(self, before, cut([2]), -6)
        check_refused(self, before, cut([1, 2]), -6)
        check_refused(self, before, cut([2, 2]), -1)


class JoinOfOneThatIsDown(unittest.TestCase):
    def test_is_refused(self):
        given = ask(cut([1]), fall(2), join(1, 2), lacks(1), join(1, 1))
        self.assertEqual(given[2:], [[-6], [1, 2, 2, 1, 2], [0]])

    def test_even_if_it_had_recorded(self):
        self.assertEqual(ask(cut([1, 2]), fall(2), join(1, 2), join(1, 1))[2:], [[-6], [0]])

    def test_order(self):
        given = ask(cut([1]), fall(2), join(0, 2), join(2, 2), join(MOST, 2), join(1, 0), join(1, 3), join(1, MOST))
        self.assertEqual(given[2:], [[-1]] * 6)

    def test_all_is_as_it_was(self):
        check_refused(self, [put(1, 3, 1), cut([1]), fall(2)], join(1, 2), -6)


class UpAgain(unittest.TestCase):
    def test_by_back(self):
        given = ask(cut([1, 2]), turns(1), fall(1), fall(2), back(1), put(1, 1, 0), take(1), cut([2, 1]), join(2, 1),
                    fall(1), fall(1))
        self.assertEqual(given[4:], [[20], [9], [1, 1, 0, 11], [2], [0], [9], [-6]])

    def test_by_net(self):
        given = ask(fall(1), fall(2), net([3, 4], [2, 1]), shows(), put(1, 4, 0), take(1), cut([1, 2]), fall(1))
        self.assertEqual(given[2:], [[1], [3, 0, 0, 4, 0, 0], [0], [1, 4, 0, 7], [1], [7]])

    def test_not_by_a_net_that_is_refused(self):
        self.assertEqual(ask(fall(1), net([3], [1, 1]), shows(), put(1, 0, 0))[1:], [[-1], [0, 0, 1, 10, 0, 0], [-6]])


if __name__ == "__main__":
    unittest.main()
