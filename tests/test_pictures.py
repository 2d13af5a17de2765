"""Points 5 to 7: cut, join, picture and lacks, and what take and turns do with marks."""

import unittest

from tests.helper import MOST, ask, cut, join, lacks, last, net, picture, put, take, turns

RING = net([7, 8, 9], [1, 2, 2, 3, 3, 1])


class Cut(unittest.TestCase):
    def test_answers_the_pictures_number(self):
        self.assertEqual(ask(cut([1]), cut([2]), cut([2, 1]), cut([1, 2])), [[1], [2], [3], [4]])

    def test_who_is_told_records_and_sends_marks(self):
        given = ask(RING, cut([3, 1]), lacks(1), take(2), take(1), take(3), lacks(1))
        self.assertEqual(given[1:], [[1], [1, 2, 3, 1, 2, 3], [-5], [2, 1, 1], [2, 1, 0], [0, 1, 2]])

    def test_keeps_purse_and_memory_of_that_moment(self):
        given = last(put(1, 3, 0), cut([1]), put(1, 2, 0), take(1), take(1), take(1), take(2), picture(1))
        self.assertEqual(given, [1, 7, 104, 13, 3328, 0, 0])

    def test_none_is_told(self):
        self.assertEqual(last(cut([])), [-1])

    def test_one_is_not_a_process(self):
        for told in ([0], [3], [1, 0], [1, 2, 3], [MOST], list(range(1, 29001)), [0] * 29000):
            with self.subTest(told=told[:4]):
                self.assertEqual(last(cut(told)), [-1])
        self.assertEqual(ask(net([1] * 8, [1, 2]), cut([8]), cut([9])), [[1], [1], [-1]])

    def test_one_is_told_twice(self):
        for told in ([1, 1], [2, 1, 2], [1, 2, 2], [1, 2] * 14500):
            with self.subTest(told=told[:4]):
                self.assertEqual(last(cut(told)), [-1])

    def test_eight_pictures_are_kept(self):
        given = ask(*[cut([1]) for k in range(10)])
        self.assertEqual(given, [[1], [2], [3], [4], [5], [6], [7], [8], [-7], [-7]])

    def test_whole_pictures_count_too(self):
        given = ask(*[cut([1, 2]) for k in range(8)], turns(8), picture(8), cut([1]))
        self.assertEqual(given[8:], [[16], [1, 10, 0, 10, 0, 0, 0], [-7]])

    def test_of_several_the_one_told_first(self):
        given = ask(*[cut([1]) for k in range(8)], cut([]), cut([3]), cut([1, 1]), cut([2]))
        self.assertEqual(given[8:], [[-1], [-1], [-1], [-7]])

    def test_all_is_as_it_was(self):
        given = ask(cut([]), cut([1, 3]), cut([1, 1]), take(1), lacks(1), cut([2]), take(2), take(2))
        self.assertEqual(given, [[-1], [-1], [-1], [-5], [-1], [1], [2, 1, 1], [-5]])

    def test_ninth_puts_no_marks(self):
        given = ask(*[cut([1]) for k in range(9)], turns(20), lacks(9))
        self.assertEqual(given[8:], [[-7], [16], [-1]])


class Marks(unittest.TestCase):
    def test_take_tells_the_number_and_who_recorded(self):
        self.assertEqual(ask(cut([1]), cut([1]), take(1), take(1), take(2), take(2)),
                         [[1], [2], [2, 1, 1], [2, 2, 1], [2, 1, 0], [2, 2, 0]])

    def test_come_behind_messages(self):
        given = ask(put(1, 3, 0), cut([1]), put(1, 2, 0), take(1), lacks(1), take(1), lacks(1), take(1))
        self.assertEqual(given[3:], [[1, 3, 0, 13], [1, 2, 2, 1, 2], [2, 1, 1], [0, 1, 2], [1, 2, 0, 15]])

    def test_who_gets_the_first_records_and_sends_on(self):
        given = ask(RING, cut([1]), take(1), lacks(1), take(2), lacks(1), take(3), lacks(1), picture(1))
        self.assertEqual(given[1:], [[1], [2, 1, 1], [1, 3, 2, 2, 3], [2, 1, 1], [0, 1, 3], [2, 1, 0], [0, 0],
                                     [1, 7, 0, 8, 0, 9, 0, 0, 0, 0]])

    def test_turns_takes_them_too(self):
        self.assertEqual(ask(RING, cut([1]), turns(1), picture(1))[2:], [[3], [1, 7, 0, 8, 0, 9, 0, 0, 0, 0]])
        self.assertEqual(ask(RING, cut([3]), turns(1), turns(1))[2:], [[1], [2]])

    def test_a_mark_to_itself(self):
        given = ask(net([4, 5], [1, 1, 1, 2]), cut([1]), put(1, 2, 0), take(1), lacks(1), take(1), take(2), picture(1))
        self.assertEqual(given[3:], [[2, 1, 0], [1, 2, 1, 2], [1, 2, 0, 4], [2, 1, 1], [1, 4, 0, 5, 0, 0, 0]])

    def test_a_mark_on_each_of_several_channels_the_same_way(self):
        given = ask(net([4, 5], [1, 2, 1, 2, 1, 2]), cut([1]), take(2), take(1), lacks(1), take(3), picture(1))
        self.assertEqual(given[2:], [[2, 1, 1], [2, 1, 0], [0, 1, 3], [2, 1, 0], [1, 4, 0, 5, 0, 0, 0, 0]])


class Join(unittest.TestCase):
    def test_records_once(self):
        given = ask(cut([1]), join(1, 1), join(1, 2), join(1, 2), lacks(1), turns(1), picture(1))
        self.assertEqual(given, [[1], [0], [1], [0], [0, 2, 1, 2], [2], [1, 10, 0, 10, 0, 0, 0]])

    def test_if_it_had_nothing_is_done(self):
        given = ask(put(1, 3, 0), cut([1]), put(1, 2, 0), join(1, 1), turns(20), picture(1))
        self.assertEqual(given[3:], [[0], [4], [1, 7, 104, 13, 3328, 0, 0]])

    def test_marks_are_put_behind_what_is_there(self):
        given = ask(cut([1]), put(2, 4, 0), join(1, 2), take(1), take(2), take(2), take(2), picture(1))
        # 101 * 2 + 4 = 206
        self.assertEqual(given[2:], [[1], [2, 1, 0], [1, 4, 0, 14], [2, 1, 0], [-5],
                                     [1, 10, 0, 6, 206, 0, 1, 4, 206, 0]])

    def test_a_process_that_no_channel_goes_to(self):
        given = ask(net([1, 2, 3], [3, 1, 1, 2]), cut([1]), turns(20), lacks(1), picture(1), join(1, 3), take(1),
                    picture(1))
        self.assertEqual(given[2:], [[1], [1, 3, 1, 1], [0], [1], [2, 1, 0], [1, 1, 0, 2, 0, 3, 0, 0, 0]])

    def test_a_process_without_channels(self):
        given = ask(net([1, 2, 3], [1, 2]), cut([1]), take(1), lacks(1), join(1, 3), lacks(1), picture(1))
        self.assertEqual(given[3:], [[1, 3, 0], [1], [0, 0], [1, 1, 0, 2, 0, 3, 0, 0]])

    def test_a_whole_picture(self):
        self.assertEqual(ask(cut([1, 2]), turns(1), join(1, 1), join(1, 2), turns(1))[2:], [[0], [0], [0]])

    def test_picture_is_not_kept_or_there_is_no_process(self):
        given = ask(join(1, 1), cut([1]), join(0, 2), join(2, 2), join(MOST, 2), join(1, 0), join(1, 3),
                    join(1, MOST), join(MOST, MOST), lacks(1))
        self.assertEqual(given, [[-1], [1], [-1], [-1], [-1], [-1], [-1], [-1], [-1], [1, 2, 2, 1, 2]])


class Caught(unittest.TestCase):
    def test_what_comes_between_record_and_mark_is_the_channels(self):
        given = ask(put(2, 4, 0), put(2, 1, 0), cut([1]), take(2), take(2), take(1), put(2, 5, 0), take(2), take(2),
                    picture(1))
        # 202 + 4 = 206; 31 * 206 + 202 + 1 = 6589
        self.assertEqual(given[3:], [[1, 4, 0, 14], [1, 1, 0, 15], [2, 1, 1], [0], [2, 1, 0], [1, 5, 0, 20],
                                     [1, 10, 0, 5, 6589, 0, 2, 4, 206, 0, 1, 6589, 0]])

    def test_what_came_ahead_of_the_record_is_not(self):
        given = last(put(2, 4, 0), take(2), cut([1]), turns(1), picture(1))
        # 31 * 206 + 202 + 4 = 6592
        self.assertEqual(given, [1, 14, 6592, 6, 206, 0, 0])

    def test_kept_with_the_hops_that_it_had(self):
        given = ask(put(2, 4, 3), cut([1]), turns(20), picture(1))
        # 202 + 21 + 4 = 227; it is sent on behind the mark, so the record of 2 knows nothing of it
        self.assertEqual(given[3], [1, 10, 0, 6, 227, 0, 1, 4, 227, 3])

    def test_what_is_sent_on_between_record_and_mark(self):
        # 3 on channel 1 with hops 1 is sent on ahead of the mark that 2 sends: 13 // 2 of it are on channel 2
        given = ask(put(1, 3, 1), cut([1]), take(1), take(1), take(2), take(2), picture(1))
        # put: 101 + 7 + 3 = 111; got: 31 * 111 + 111 = 3552; sent on: 31 * 3552 + 202 + 6 - 65521 = 44799
        self.assertEqual(given[2:], [[1, 3, 1, 7], [2, 1, 1], [1, 6, 0, 13], [2, 1, 0],
                                     [1, 7, 111, 7, 44799, 0, 1, 6, 44799, 0]])

    def test_a_message_to_itself(self):
        given = last(net([4, 5], [1, 1, 2, 1]), put(1, 3, 0), cut([1, 2]), turns(2), picture(1))
        self.assertEqual(given, [1, 1, 104, 5, 0, 1, 3, 104, 0, 0])

    def test_two_pictures_at_once(self):
        given = ask(put(2, 4, 0), cut([1]), take(2), put(2, 1, 0), cut([2]), take(2), take(1), take(2),
                    lacks(1), lacks(2), take(2), take(1), picture(1), picture(2))
        # process 1: 31 * 206 + 206 = 6592, then 31 * (6592 + 6589) + 203 - 6 * 65521 = 15688
        self.assertEqual(given[4:], [
            [2], [1, 1, 0, 15], [2, 1, 1], [2, 2, 1], [0, 1, 2], [0, 1, 1], [2, 1, 0], [2, 2, 0],
            [1, 10, 0, 5, 6589, 0, 2, 4, 206, 0, 1, 6589, 0], [1, 15, 15688, 5, 6589, 0, 0]])

    def test_a_message_belongs_to_every_picture_under_way(self):
        given = ask(put(2, 4, 0), cut([1]), cut([1]), turns(20), picture(1), picture(2))
        self.assertEqual(given[4:], [[1, 10, 0, 6, 206, 0, 1, 4, 206, 0]] * 2)

    def test_coins_of_a_picture_are_all_coins(self):
        calls = [net([100, 50, 7, 3], [1, 2, 2, 3, 3, 4, 4, 1, 1, 3, 3, 3, 2, 1]), put(1, 60, 3), put(2, 20, 3),
                 turns(2), cut([3]), turns(20), picture(1)]
        given = last(*calls)
        self.assertEqual(given[0], 1)
        coins = sum(given[1:9:2])
        place = 9
        for c in range(7):
            coins += sum(given[place + 1:place + 1 + 3 * given[place]:3])
            place += 1 + 3 * given[place]
        self.assertEqual((coins, place), (160, len(given)))


class PictureAndLacks(unittest.TestCase):
    def test_not_whole(self):
        self.assertEqual(ask(cut([1, 2]), picture(1), take(1), picture(1), take(2), picture(1))[1:],
                         [[0], [2, 1, 0], [0], [2, 1, 0], [1, 10, 0, 10, 0, 0, 0]])

    def test_all_shut_but_one_has_not_recorded(self):
        self.assertEqual(ask(net([1, 2, 3], [1, 1]), cut([1]), take(1), picture(1), lacks(1))[3:], [[0], [2, 2, 3, 0]])

    def test_a_whole_picture_stays_as_it_is(self):
        before = [cut([1, 2]), turns(1), picture(1)]
        given = ask(*before, put(1, 5, 3), turns(20), put(2, 1, 0), cut([2]), turns(20), picture(1), lacks(1))
        self.assertEqual(given[-2:], [[1, 10, 0, 10, 0, 0, 0], [0, 0]])

    def test_the_lowest_number_first(self):
        given = last(net([1] * 8, [1, 2] * 16), cut([7, 3]), lacks(1))
        self.assertEqual(given, [6, 1, 2, 4, 5, 6, 8, 16] + list(range(1, 17)))

    def test_picture_is_not_kept(self):
        for call in (picture, lacks):
            with self.subTest(call=call.__name__):
                self.assertEqual(ask(call(1), cut([1]), call(0), call(2), call(MOST)), [[-1], [1], [-1], [-1], [-1]])

    def test_asking_changes_nothing(self):
        calls = [put(2, 4, 2), cut([1]), turns(1), cut([2]), turns(20), picture(1), picture(2)]
        asked = [part for call in calls for part in (call, picture(1), lacks(1), picture(9), lacks(9))]
        self.assertEqual(ask(*asked)[::5], ask(*calls))


if __name__ == "__main__":
    unittest.main()
