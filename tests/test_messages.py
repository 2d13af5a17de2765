"""Points 2 to 4: put, take and turns, as far as they are about messages."""

import unittest

from tests.helper import MOST, ask, cut, last, net, picture, put, take, turns


def look(processes):
    """Calls that show purses and memories while nothing is on the channels: a picture of all."""
    return [cut(processes), turns(1), picture(1)]


class Put(unittest.TestCase):
    def test_answers_what_the_purse_has_then(self):
        self.assertEqual(ask(put(1, 3, 0), put(1, 0, 3), put(1, 7, 1), put(2, 10, 2)), [[7], [7], [0], [0]])

    def test_memory_of_the_one_that_puts(self):
        # 101 * 1 + 7 * 0 + 3, behind it 31 * 104 + 101 + 7 * 3 + 2
        self.assertEqual(last(put(1, 3, 0), cut([1]), turns(3), picture(1))[1:3], [7, 104])
        self.assertEqual(last(put(1, 3, 0), put(1, 2, 3), cut([1]), turns(3), picture(1))[1:3], [5, 3348])

    def test_memory_is_modulo_65521(self):
        # 104; 31 * 104 + 101 + 2 = 3327; 31 * 3327 + 101 + 1 - 65521 = 37718; 31 * 37718 + 101 - 17 * 65521
        calls = [put(1, 3, 0), put(1, 2, 0), put(1, 1, 0), put(1, 0, 0), cut([1]), turns(6), picture(1)]
        self.assertEqual(last(*calls)[1:3], [4, 55502])

    def test_no_such_channel(self):
        self.assertEqual(ask(put(0, 0, 0), put(3, 0, 0), put(MOST, 0, 0)), [[-1], [-1], [-1]])
        self.assertEqual(ask(net([1] * 8, [1, 2] * 16), put(16, 0, 0), put(17, 0, 0)), [[16], [1], [-1]])

    def test_hops_are_at_most_3(self):
        self.assertEqual(ask(put(1, 0, 3), put(1, 0, 4), put(1, 0, MOST)), [[10], [-2], [-2]])

    def test_the_purse_has_so_many(self):
        self.assertEqual(ask(put(1, 11, 0), put(1, 10, 0), put(1, 1, 0), put(1, 0, 0)), [[-3], [0], [-3], [0]])
        self.assertEqual(last(put(2, MOST, 0)), [-3])

    def test_of_several_the_one_told_first(self):
        self.assertEqual(last(put(0, 11, 4)), [-1])
        self.assertEqual(last(put(3, MOST, MOST)), [-1])
        self.assertEqual(last(put(1, 11, 4)), [-2])

    def test_all_is_as_it_was(self):
        plain = ask(put(1, 2, 1), *look([1, 2]), turns(20))
        for refused in (put(3, 1, 1), put(1, 1, 4), put(1, 9, 1)):
            given = ask(put(1, 2, 1), refused, *look([1, 2]), turns(20))
            self.assertLess(given.pop(1)[0], 0)
            self.assertEqual(given, plain)


class Take(unittest.TestCase):
    def test_message_with_no_hops_stays(self):
        # 31 * (0 + 104) + 101 + 3
        given = ask(put(1, 3, 0), take(1), take(2), *look([1, 2]))
        self.assertEqual(given, [[7], [1, 3, 0, 13], [-5], [1], [2], [1, 7, 104, 13, 3328, 0, 0]])

    def test_message_with_two_hops_comes_back_and_goes_again(self):
        given = ask(put(1, 4, 2), take(1), take(2), take(1), take(2), *look([1, 2]))
        self.assertEqual(given, [[6], [1, 4, 2, 7], [1, 7, 1, 7], [1, 6, 0, 13], [-5],
                                 [1], [2], [1, 7, 28410, 13, 26052, 0, 0]])

    def test_hops_3_is_sent_on_three_times(self):
        given = ask(put(1, 10, 3), take(1), take(2), take(1), take(2), take(1), take(2))
        # 20 // 2, 10 // 2, 15 // 2
        self.assertEqual(given, [[0], [1, 10, 3, 10], [1, 10, 2, 5], [1, 5, 1, 8], [1, 7, 0, 12], [-5], [-5]])

    def test_half_of_what_is_left_channel_by_channel(self):
        given = ask(net([9, 4, 0], [1, 2, 2, 3, 2, 1, 2, 2, 2, 3]), put(1, 9, 1), take(1),
                    take(2), take(3), take(4), take(5), take(2))
        # of 13: 6, of 7: 3, of 4: 2, of 2: 1, and 1 stays
        self.assertEqual(given, [[5], [0], [1, 9, 1, 1], [1, 6, 0, 6], [1, 3, 0, 3], [1, 2, 0, 3], [1, 1, 0, 7],
                                 [-5]])

    def test_memories_channel_by_channel(self):
        calls = [net([9, 4], [1, 2, 2, 1, 2, 1]), put(1, 9, 1), take(1), cut([2]), turns(4), picture(1)]
        # put: 101 + 7 + 9 = 117; got: 31 * 117 + 117 = 3744; 6 of 13 on channel 2 with hops 0:
        # 31 * 3744 + 202 + 6 = 116272 - 65521 = 50751; 3 of 7 on channel 3:
        # 31 * 50751 + 303 + 3 = 1573587 - 24 * 65521 = 1083
        # process 1 got 6 with 50751: 31 * (117 + 50751) + 202 + 6 = 1577116 - 24 * 65521 = 4612;
        # then 3 with 1083: 31 * (4612 + 1083) + 303 + 3 = 176851 - 2 * 65521 = 45809
        self.assertEqual(last(*calls), [1, 9, 45809, 4, 1083, 0, 0, 0])

    def test_messages_without_coins_are_sent_on(self):
        given = ask(net([0, 0], [1, 2, 2, 1]), put(1, 0, 1), take(1), take(2), take(1))
        self.assertEqual(given, [[2], [0], [1, 0, 1, 0], [1, 0, 0, 0], [-5]])

    def test_one_coin_is_not_halved(self):
        given = ask(net([1, 0], [1, 2, 2, 1]), put(1, 1, 1), take(1), take(2))
        self.assertEqual(given[2:], [[1, 1, 1, 1], [1, 0, 0, 0]])

    def test_first_put_is_first_taken(self):
        given = ask(put(1, 1, 0), put(1, 2, 0), put(1, 3, 0), take(1), take(1), take(1), take(1))
        self.assertEqual(given[3:], [[1, 1, 0, 11], [1, 2, 0, 13], [1, 3, 0, 16], [-5]])

    def test_what_is_sent_on_stands_last(self):
        given = ask(put(2, 5, 0), put(1, 4, 1), take(1), take(2), take(2))
        self.assertEqual(given[2:], [[1, 4, 1, 5], [1, 5, 0, 11], [1, 4, 0, 15]])

    def test_no_such_channel(self):
        self.assertEqual(ask(take(0), take(3), take(MOST)), [[-1], [-1], [-1]])
        self.assertEqual(ask(net([1, 1], [1, 2] * 16), take(16), take(17)), [[16], [-5], [-1]])

    def test_nothing_is_on_it(self):
        self.assertEqual(ask(take(2), put(1, 1, 0), take(2), take(1), take(1)), [[-5], [9], [-5], [1, 1, 0, 11], [-5]])

    def test_all_is_as_it_was(self):
        plain = ask(put(1, 2, 1), *look([1, 2]), turns(20))
        for refused in (take(0), take(3), take(2)):
            given = ask(put(1, 2, 1), refused, *look([1, 2]), turns(20))
            self.assertLess(given.pop(1)[0], 0)
            self.assertEqual(given, plain)


class Turns(unittest.TestCase):
    def test_a_round_takes_one_from_each_channel(self):
        given = ask(put(1, 1, 0), put(1, 1, 0), put(2, 1, 0), turns(1), take(2), take(1))
        self.assertEqual(given[3:], [[2], [-5], [1, 1, 0, 11]])

    def test_what_comes_within_a_round_is_taken_by_later_channels(self):
        # on channel 1 first, so the message on channel 2 is there when channel 2's turn comes
        self.assertEqual(ask(put(1, 4, 1), turns(1), take(2))[1:], [[2], [-5]])
        # on channel 2 first, so the message on channel 1 waits for the next round
        self.assertEqual(ask(put(2, 4, 1), turns(1), take(1))[1:], [[1], [1, 7, 0, 13]])

    def test_at_most_one_of_each_channel_a_round(self):
        calls = [net([8, 0], [1, 1, 1, 1]), put(1, 8, 1), turns(1), turns(1), turns(1)]
        self.assertEqual(ask(*calls)[2:], [[2], [1], [0]])

    def test_many_rounds(self):
        self.assertEqual(ask(put(1, 10, 3), turns(20), turns(20)), [[0], [4], [0]])
        calls = [put(1, 0, 0) for k in range(25)]
        self.assertEqual(ask(*calls, turns(19), turns(20))[25:], [[19], [6]])

    def test_is_the_same_as_taking_one_by_one(self):
        before = [net([7, 8, 9], [1, 2, 2, 3, 3, 1, 2, 1]), put(1, 7, 2), put(4, 3, 1)]
        one_by_one = [take(1), take(2), take(3), take(4)]
        self.assertEqual(ask(*before, *one_by_one, *look([1, 2, 3]), turns(20), picture(1))[-2:],
                         ask(*before, turns(1), *look([1, 2, 3]), turns(20), picture(1))[-2:])

    def test_no_round(self):
        self.assertEqual(ask(put(1, 1, 0), turns(0), take(1)), [[9], [0], [1, 1, 0, 11]])

    def test_t_is_at_most_20(self):
        self.assertEqual(ask(turns(20), turns(21), turns(MOST)), [[0], [-2], [-2]])

    def test_all_is_as_it_was(self):
        self.assertEqual(ask(put(1, 1, 0), turns(21), take(1)), [[9], [-2], [1, 1, 0, 11]])


class OddChannels(unittest.TestCase):
    def test_from_a_process_to_itself(self):
        given = ask(net([9, 0], [1, 1]), put(1, 4, 1), take(1), take(1), take(1))
        # 4 come back to 5, half of 9 goes again
        self.assertEqual(given, [[1], [5], [1, 4, 1, 5], [1, 4, 0, 9], [-5]])

    def test_itself_memory(self):
        # put: 101 + 4 = 105; got: 31 * (105 + 105) + 105 = 6615
        given = last(net([9, 0], [1, 1]), put(1, 4, 0), take(1), cut([1, 2]), turns(1), picture(1))
        self.assertEqual(given, [1, 9, 6615, 0, 0, 0])

    def test_several_the_same_way_are_apart(self):
        given = ask(net([9, 0], [1, 2, 1, 2, 1, 2]), put(3, 1, 0), put(1, 2, 0), put(2, 3, 0),
                    take(2), take(1), take(3), take(1))
        self.assertEqual(given[4:], [[1, 3, 0, 3], [1, 2, 0, 5], [1, 1, 0, 6], [-5]])

    def test_nothing_comes_from_the_one_that_gets(self):
        given = ask(net([9, 1, 5], [1, 2]), put(1, 6, 3), take(1), take(1), turns(20))
        self.assertEqual(given, [[1], [3], [1, 6, 3, 7], [-5], [0]])


if __name__ == "__main__":
    unittest.main()
