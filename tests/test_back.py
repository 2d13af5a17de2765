"""Point 7: back, and what follows it."""

import unittest

from tests.helper import (MOST, ask, ask_behind, back, channel, check_refused, count, cut, drop, fall, join, lacks,
                          last, net, newest, picture, put, shows, take, total, turns)

# 4 and 1 of process 2 are on channel 2 when 1 records, and belong to the picture (202 + 4 = 206;
# 31 * 206 + 202 + 14 + 1 = 6603); the 5 that come behind the mark don't.
CAUGHT = [put(2, 4, 0), put(2, 1, 2), cut([1]), take(2), take(2), turns(1), put(2, 5, 0), turns(20)]
CAUGHT_SHOWS = [10, 0, 0, 5, 6603, 0]
CAUGHT_CHANNEL = [2, 1, 4, 206, 0, 1, 1, 6603, 2]

# Pictures 1, 2 and 3 are whole, with 1, 3 and 5 deeds before them; 7 deeds are done, and picture 4 is under way.
FOUR = [put(1, 1, 0), cut([1, 2]), turns(2), put(1, 2, 0), cut([1, 2]), turns(2), put(1, 3, 0), cut([1, 2]), turns(2),
        put(2, 9, 0), cut([1])]


class Back(unittest.TestCase):
    def test_answers_the_coins_of_the_picture(self):
        self.assertEqual(ask(cut([1, 2]), turns(1), back(1)), [[1], [2], [20]])
        self.assertEqual(ask_behind(CAUGHT, back(1)), [[20]])
        self.assertEqual(last(net([1000] * 8, [1, 2]), cut(list(range(1, 9))), turns(1), back(1)), [8000])

    def test_coins_that_are_lost_are_back(self):
        given = ask(cut([1, 2]), turns(1), fall(1), fall(2), total(), back(1), total())
        self.assertEqual(given[2:], [[10], [10], [0, 0], [20], [20, 0]])

    def test_purses_and_memories_are_as_in_the_picture(self):
        given = ask_behind(CAUGHT, back(1), shows())
        self.assertEqual(given[1], CAUGHT_SHOWS)

    def test_channels_are_as_in_the_picture(self):
        given = ask_behind(CAUGHT, back(1), channel(1), channel(2), total())
        self.assertEqual(given[1:], [[0], CAUGHT_CHANNEL, [15, 5]])

    def test_what_is_on_the_channels_is_gone(self):
        given = ask(cut([1, 2]), turns(1), put(1, 3, 0), put(2, 4, 3), back(1), channel(1), channel(2), turns(20))
        self.assertEqual(given[4:], [[20], [0], [0], [0]])

    def test_no_marks_are_on_the_channels(self):
        given = ask_behind(CAUGHT, cut([1, 2]), cut([1, 2]), back(1), channel(1), channel(2))
        self.assertEqual(given[2:], [[20], [0], CAUGHT_CHANNEL])

    def test_everybody_is_up(self):
        for fallen in ([1], [2], [1, 2]):
            given = ask_behind(CAUGHT, *[fall(p) for p in fallen], back(1), shows(), put(1, 10, 0), take(1), take(2))
            self.assertEqual(given[len(fallen) + 1:], [CAUGHT_SHOWS, [0], [1, 10, 0, 15], [1, 4, 0, 4]])

    def test_what_is_on_the_channels_is_taken_as_before(self):
        given = ask_behind(CAUGHT, back(1), take(2), take(2), take(2), take(1), shows())
        # 31 * 206 + 202 + 4 = 6592, then 31 * (6592 + 6603) + 202 + 14 + 1 - 6 * 65521 = 16136, and half of
        # 15 is sent on with hops 1: 31 * 16136 + 101 + 7 + 7 - 7 * 65521 = 41684
        self.assertEqual(given[1:4], [[1, 4, 0, 14], [1, 1, 2, 8], [-5]])
        self.assertEqual(given[4], [1, 7, 1, 6])
        self.assertEqual(given[5][:2], [8, 41684])

    def test_the_picture_stays_as_it_is(self):
        given = ask_behind(CAUGHT, picture(1), back(1), picture(1), turns(20), put(1, 1, 1), take(1), picture(1),
                           lacks(1))
        self.assertEqual(given[0], [1, 10, 0, 5, 6603, 0, 2, 4, 206, 0, 1, 6603, 2])
        self.assertEqual((given[2], given[6], given[7]), (given[0], given[0], [0, 0]))

    def test_twice(self):
        for between in ([], [turns(20)], [put(2, 1, 1), fall(2)], [fall(1), take(1)], [cut([1]), take(2)]):
            with self.subTest(between=between):
                given = ask_behind(CAUGHT, back(1), *between, back(1), shows(), channel(1), channel(2), count(1),
                                   picture(1))
                self.assertEqual(given[len(between) + 1:], [[20], CAUGHT_SHOWS, [0], CAUGHT_CHANNEL, [2, 2],
                                                            [1, 10, 0, 5, 6603, 0, 2, 4, 206, 0, 1, 6603, 2]])

    def test_a_message_to_itself(self):
        given = ask(net([4, 5], [1, 1]), put(1, 3, 0), cut([1, 2]), turns(2), back(1), shows(), channel(1), take(1))
        self.assertEqual(given[4:], [[9], [1, 104, 0, 5, 0, 0], [1, 1, 3, 104, 0], [1, 3, 0, 4]])


class PicturesBehindBack(unittest.TestCase):
    def test_the_beginning_of_these_tests(self):
        given = ask_behind(FOUR, newest(), lacks(4), count(1), count(2), count(3), count(4))
        self.assertEqual(given, [[3], [1, 2, 2, 1, 2], [1, 7], [3, 7], [5, 7], [7, 7]])

    def test_those_that_are_not_whole_are_gone(self):
        for k in (1, 2, 3):
            given = ask_behind(FOUR, back(k), lacks(4), picture(4), count(4), join(4, 2), back(4), drop(4))
            self.assertEqual(given, [[20], [-1], [-1], [-1], [-1], [-1], [-1]])

    def test_whole_ones_are_kept_earlier_and_later(self):
        pictures = ask_behind(FOUR, picture(1), picture(2), picture(3))
        for k in (1, 2, 3):
            given = ask_behind(FOUR, back(k), picture(1), picture(2), picture(3), lacks(1), lacks(2), lacks(3),
                               newest(), drop(1))
            self.assertEqual(given[1:], pictures + [[0, 0]] * 3 + [[3], [2]])

    def test_back_to_an_earlier_and_to_a_later_one(self):
        for before in ([1], [2], [3], [1, 3], [3, 1], [2, 2]):
            for k in (1, 2, 3):
                given = ask_behind(FOUR, *[back(number) for number in before], back(k), picture(k), shows(),
                                   channel(1), channel(2), count(k))[len(before):]
                # one message is caught by each: 1, 2 or 3 coins on channel 1
                whole = given[1]
                self.assertEqual(given[0], [20])
                self.assertEqual(given[2], [whole[1], whole[2], 0, whole[3], whole[4], 0])
                self.assertEqual((whole[5], given[3]), (1, [1, 1] + whole[6:9]))
                self.assertEqual((given[4], given[5]), ([0], [2 * k - 1, 2 * k - 1]))
                self.assertEqual(whole[6], k)

    def test_one_begun_later_is_whole_and_an_earlier_one_is_not(self):
        given = ask(net([1, 2], [1, 1]), cut([1]), cut([1, 2]), turns(2), lacks(1), lacks(2), newest(), back(1),
                    back(2), lacks(1), lacks(2), newest())
        self.assertEqual(given[4:], [[1, 2, 0], [0, 0], [2], [-8], [3], [-1], [0, 0], [2]])

    def test_the_next_number_was_never_given(self):
        given = ask_behind(FOUR, back(1), cut([1]), back(2), cut([1]), turns(20), cut([2]))
        self.assertEqual(given[1::2], [[5], [6], [7]])
        given = ask(cut([1, 2]), turns(1), cut([1]), drop(2), back(1), cut([1]), drop(3), drop(1), cut([1]))
        self.assertEqual((given[5], given[8]), ([3], [4]))

    def test_pictures_that_follow(self):
        given = ask_behind(CAUGHT, back(1), cut([2]), turns(20), picture(2), count(2), newest(), back(2), shows())
        # 2 has recorded 5 coins and 6603; 1 gets 4 and 1 ahead of the mark, and sends 7 of 15 on ahead of its own
        self.assertEqual(given[1], [2])
        self.assertEqual(given[3][:7], [1, 8, 41684, 5, 6603, 1, 7])
        self.assertEqual((given[4][0], given[5], given[6]), (4, [2], [20]))
        self.assertEqual(given[7], [8, 41684, 0, 5, 6603, 0])

    def test_gone_pictures_count_no_more(self):
        given = ask(cut([1, 2]), turns(1), *[cut([1])] * 7, cut([1]), back(1), *[cut([2])] * 8)
        self.assertEqual(given[9:], [[-7], [20]] + [[k] for k in range(9, 16)] + [[-7]])

    def test_whole_ones_that_are_kept_count(self):
        given = ask(*[cut([1, 2])] * 8, turns(8), back(3), cut([1]), drop(3), cut([1]), cut([1]))
        self.assertEqual(given[8:], [[16], [20], [-7], [7], [9], [-7]])

    def test_whole_ones_see_no_message_and_no_deed_any_more(self):
        pictures = ask_behind(FOUR, picture(1), picture(2), picture(3))
        given = ask_behind(FOUR, back(1), put(1, 3, 3), put(2, 3, 3), turns(20), picture(1), picture(2), picture(3),
                           count(2))
        self.assertEqual(given[4:7], pictures)
        self.assertEqual(given[7][0], 3)


class DeedsBehindBack(unittest.TestCase):
    def test_as_many_as_before_the_picture(self):
        for k, deeds in ((1, 1), (2, 3), (3, 5)):
            given = ask_behind(FOUR, back(k), count(1), count(2), count(3))
            self.assertEqual(given[1:], [[1, deeds], [3, deeds], [5, deeds]])

    def test_with_deeds_of_one_that_had_not_recorded(self):
        given = ask(cut([1]), put(2, 1, 0), put(2, 1, 0), put(1, 1, 0), turns(20), count(1), back(1), count(1))
        # the two of 2 and none of 1; 2's takings come behind its record
        self.assertEqual(given[5:], [[2, 6], [20], [2, 2]])

    def test_deeds_that_follow(self):
        given = ask_behind(FOUR, back(2), put(2, 1, 0), take(1), count(2), cut([1]), put(2, 1, 0), put(1, 1, 0),
                           count(5), count(3))
        self.assertEqual((given[3], given[7], given[8]), ([3, 5], [6, 7], [5, 7]))

    def test_behind_net_there_are_none(self):
        self.assertEqual(ask_behind(FOUR, back(3), net([1, 1], [1, 2]), cut([1]), count(1))[3], [0, 0])


class BackRefusals(unittest.TestCase):
    def test_picture_is_not_kept(self):
        self.assertEqual(ask(back(0)), [[-1]])
        self.assertEqual(ask(back(1)), [[-1]])
        given = ask(cut([1, 2]), turns(1), back(0), back(2), back(MOST), drop(1), back(1))
        self.assertEqual(given[2:], [[-1], [-1], [-1], [0], [-1]])

    def test_it_is_not_whole(self):
        self.assertEqual(ask(cut([1, 2]), back(1), take(1), back(1), take(2), back(1)),
                         [[1], [-8], [2, 1, 0], [-8], [2, 1, 0], [20]])
        self.assertEqual(ask(net([1, 2, 3], [1, 1]), cut([1]), take(1), back(1), join(1, 2), back(1), join(1, 3),
                             back(1))[3::2], [[-8], [-8], [6]])

    def test_it_never_is_when_one_fell_ahead_of_its_record(self):
        given = ask(net([1, 2, 4], [3, 1]), fall(3), cut([1, 2]), turns(20), lacks(1), back(1))
        self.assertEqual(given[4:], [[1, 3, 1, 1], [-8]])

    def test_not_kept_comes_before_not_whole(self):
        self.assertEqual(ask(cut([1]), back(1), drop(1), back(1)), [[1], [-8], [0], [-1]])
        self.assertEqual(ask_behind(FOUR, back(4), back(1), back(4)), [[-8], [20], [-1]])

    def test_all_is_as_it_was(self):
        before = [put(1, 3, 1), cut([1, 2]), turns(3), put(2, 1, 0), cut([1]), cut([2]), drop(3), fall(1)]
        for k in (0, 3, 4, MOST):
            check_refused(self, before, back(k), -1)
        check_refused(self, before, back(2), -8)


if __name__ == "__main__":
    unittest.main()
