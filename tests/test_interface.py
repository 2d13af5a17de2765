"""The interface: how calls are read and answers given, and what isn't touched by it."""

import builtins
import contextlib
import io
import time
import unittest
from unittest import mock

from coinpictures.net import answers
from tests.helper import (MOST, ask, back, channel, count, cut, drop, fall, join, lacks, net, newest, part, picture,
                          put, shows, take, total, turns)

MIXED = (net([20, 5, 6], [1, 2, 2, 3, 3, 1, 1, 1]) + put(1, 7, 3) + cut([2]) + turns(4) + put(9, 1, 1) + join(1, 3)
         + turns(20) + picture(1) + lacks(1) + take(1) + cut([1]) + put(2, 1, 2) + count(2) + channel(1) + fall(3)
         + newest() + shows() + total() + back(1) + channel(2) + cut([3]) + drop(3) + turns(2) + drop(1) + back(1)
         + shows())


class Form(unittest.TestCase):
    def test_each_answer_has_its_count_ahead(self):
        self.assertEqual(answers([3, 0]), [1, 0])
        self.assertEqual(answers([2, 9]), [1, -1])
        self.assertEqual(answers([1, 1, 3, 0, 2, 1, 4, 1, 1, 2, 1, 7, 1]),
                         [1, 7, 4, 1, 3, 0, 13, 1, 1, 3, 2, 1, 1, 3, 0, 1, 2])

    def test_rows_have_their_lengths_ahead(self):
        self.assertEqual(answers([0, 2, 5, 6, 4, 1, 2, 2, 1, 4, 2, 2, 1, 3, 1, 6, 1]),
                         [1, 2, 1, 1, 1, 2, 7, 1, 5, 0, 6, 0, 0, 0])

    def test_answers_of_several_numbers_have_no_count_of_their_own_but_those_told(self):
        self.assertEqual(answers([1, 1, 3, 0, 4, 1, 1, 8, 1, 12, 13, 1, 14, 15, 9, 2, 11, 1, 10, 1]),
                         [1, 7, 1, 1, 2, 1, 1, 6, 7, 104, 0, 10, 0, 0, 7, 2, 1, 3, 104, 0, 2, 1, 2, 17, 3, 1, 0, 1, 10,
                          1, 0, 1, -1])

    def test_calls_without_numbers(self):
        self.assertEqual(answers([12, 14, 15, 12]), [6, 10, 0, 0, 10, 0, 0, 2, 20, 0, 1, 0, 6, 10, 0, 0, 10, 0, 0])

    def test_rows_of_no_numbers(self):
        self.assertEqual(answers([0, 0, 0, 4, 0, 0, 2, 1, 1, 0, 3, 1]), [1, -1, 1, -1, 1, -3, 1, 0])

    def test_long_rows_are_read_to_their_end(self):
        self.assertEqual(ask(net([7] * 15000, [1] * 14000), cut([2])), [[-1], [1]])
        self.assertEqual(ask(net([7, 7], [1] * 29000), cut([2])), [[-3], [1]])
        self.assertEqual(ask(cut([1] * 29000), cut([2])), [[-1], [1]])

    def test_greatest_numbers(self):
        given = ask(net([MOST], [MOST]), net([MOST, MOST], []), net([1, 1], [MOST, MOST]), put(MOST, MOST, MOST),
                    put(1, MOST, MOST), put(1, MOST, 0), take(MOST), turns(MOST), cut([MOST]), join(MOST, MOST),
                    picture(MOST), lacks(MOST), count(MOST), fall(MOST), back(MOST), drop(MOST), channel(MOST))
        self.assertEqual(given, [[-1], [-2], [-4], [-1], [-2], [-3], [-1], [-2]] + [[-1]] * 9)

    def test_greatest_numbers_beside_some_that_are_there(self):
        given = ask(cut([1, MOST]), cut([1, 2]), join(1, MOST), join(MOST, 1), net([1, MOST], [1, 2]),
                    net([1, 1], [1, MOST]), net([1, 1, 1], [MOST, 1]), turns(1), picture(1))
        self.assertEqual(given, [[-1], [1], [-1], [-1], [-2], [-4], [-4], [2], [1, 10, 0, 10, 0, 0, 0]])

    def test_answers_are_whole_numbers_in_a_list(self):
        given = answers(list(MIXED))
        self.assertIs(type(given), list)
        self.assertEqual({type(number) for number in given}, {int})

    def test_sixty_calls(self):
        self.assertEqual(len(part(answers([1, 1, 0, 0] * 60))), 60)


class NothingKept(unittest.TestCase):
    def test_list_handed_in_is_not_changed(self):
        handed = list(MIXED)
        answers(handed)
        self.assertEqual(handed, MIXED)

    def test_list_handed_in_is_not_changed_for_a_while_either(self):
        class Locked(list):
            def locked(self, *told):
                raise AssertionError("changed")

            append = extend = insert = pop = remove = clear = sort = reverse = locked
            __setitem__ = __delitem__ = __iadd__ = __imul__ = locked

        self.assertEqual(answers(Locked(MIXED)), answers(list(MIXED)))

    def test_second_call_answers_as_the_first(self):
        first = answers(list(MIXED))
        answers(net([1, 2], [2, 1]) + put(1, 1, 0) + cut([1]))
        self.assertEqual(answers(list(MIXED)), first)
        self.assertEqual(ask(cut([1])), [[1]])
        self.assertEqual(ask(cut([1]), take(1), take(1)), [[1], [2, 1, 1], [-5]])

    def test_a_fall_a_deed_and_a_picture_of_one_list_are_not_in_the_next(self):
        looks = shows() + total() + newest() + channel(1) + channel(2) + back(1) + cut([1]) + count(1)
        first = answers(list(looks))
        answers(put(1, 1, 0) + cut([1, 2]) + turns(2) + fall(1) + put(2, 1, 0))
        self.assertEqual(answers(list(looks)), first)

    def test_the_same_list_handed_in_twice(self):
        handed = list(MIXED)
        self.assertEqual(answers(handed), answers(handed))

    def test_answers_given_back_are_the_callers_own(self):
        first = answers(list(MIXED))
        kept = list(first)
        first.clear()
        self.assertEqual(answers(list(MIXED)), kept)

    def test_prints_and_reads_nothing(self):
        out = io.StringIO()
        err = io.StringIO()
        refuse = mock.Mock(side_effect=AssertionError("called"))
        with contextlib.redirect_stdout(out), contextlib.redirect_stderr(err), \
                mock.patch.object(builtins, "open", refuse), mock.patch.object(builtins, "input", refuse), \
                mock.patch.object(builtins, "__import__", refuse):
            answers(list(MIXED))
        self.assertEqual((out.getvalue(), err.getvalue()), ("", ""))


class MuchAtOnce(unittest.TestCase):
    def test_the_most_messages_that_a_list_can_make(self):
        calls = [net([1000, 1000], [1, 1] * 16)] + [put(1, 0, 3)] * 4 + [cut([1, 2])] * 5 + [turns(20)] * 50
        start = time.perf_counter()
        given = ask(*calls)
        self.assertLess(time.perf_counter() - start, 30)
        self.assertEqual(given[10:20], [[320]] * 10)

    def test_a_picture_with_thousands_of_messages(self):
        calls = [net([1000, 1000], [1, 1] * 16)] + [put(1, 1, 3)] * 4 + [turns(20)] * 4
        whole = ask(*calls, cut([1, 2]), *[turns(20)] * 49, picture(1))[-1]
        self.assertEqual(whole[0], 1)
        coins = whole[1] + whole[3]
        messages = 0
        place = 5
        while place < len(whole):
            messages += whole[place]
            coins += sum(whole[place + 1:place + 1 + 3 * whole[place]:3])
            place += 1 + 3 * whole[place]
        self.assertEqual((place, coins), (len(whole), 2000))
        self.assertGreater(messages, 3000)

    def test_back_to_thousands_of_messages(self):
        calls = [net([1000, 1000], [1, 1] * 16)] + [put(1, 1, 3)] * 4 + [turns(20)] * 4
        given = ask(*calls, cut([1, 2]), *[turns(20)] * 40, back(1), total(), picture(1), shows(), channel(16))
        whole = given[-3]
        self.assertEqual(given[-5], [2000])
        self.assertEqual(sum(given[-4]), 2000)
        self.assertEqual(given[-2], [whole[1], whole[2], 0, whole[3], whole[4], 0])
        self.assertGreater(given[-1][0], 200)
        # channel 16 is the picture's last, and has one number more of each message
        self.assertEqual(len(given[-1]), 1 + 4 * given[-1][0])
        self.assertEqual([number for place, number in enumerate(given[-1][1:]) if place % 4],
                         whole[-3 * given[-1][0]:])


if __name__ == "__main__":
    unittest.main()
