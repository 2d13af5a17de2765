"""Point 7: count, and which deeds are done before a picture."""

import unittest

from tests.helper import (MOST, ask, ask_behind, back, check_refused, count, cut, drop, fall, join, lacks, last, net,
                          picture, put, take, turns)

RING = net([7, 8, 9], [1, 2, 2, 3, 3, 1])


class Deeds(unittest.TestCase):
    def test_none_at_the_beginning(self):
        self.assertEqual(ask(cut([1]), count(1)), [[1], [0, 0]])

    def test_put_is_one(self):
        self.assertEqual(last(put(1, 1, 0), put(2, 0, 3), put(1, 0, 0), cut([1]), count(1)), [3, 3])

    def test_a_message_that_is_taken_is_one(self):
        self.assertEqual(last(put(1, 1, 0), take(1), cut([1]), count(1)), [2, 2])

    def test_with_all_that_is_sent_on(self):
        self.assertEqual(last(put(1, 4, 3), take(1), cut([1]), count(1)), [2, 2])
        calls = [net([9, 4], [1, 2, 2, 1, 2, 1, 2, 2]), put(1, 9, 1), take(1), cut([1]), count(1)]
        self.assertEqual(last(*calls), [2, 2])

    def test_what_was_sent_on_is_one_when_it_is_taken(self):
        self.assertEqual(last(put(1, 4, 3), turns(20), cut([1]), count(1)), [5, 5])

    def test_turns_counts_messages_and_no_marks(self):
        given = ask(put(1, 1, 0), put(2, 1, 0), cut([1, 2]), turns(20), count(1))
        self.assertEqual(given[3:], [[4], [2, 4]])

    def test_marks_cut_and_join_are_none(self):
        given = ask(RING, cut([1]), take(1), join(1, 3), take(2), take(3), cut([1, 2, 3]), count(1), count(2))
        self.assertEqual(given[-2:], [[0, 0], [0, 0]])

    def test_asking_and_refusals_are_none(self):
        given = ask(cut([1]), put(3, 0, 0), put(1, 0, 4), put(1, 11, 0), take(3), take(2), turns(0), turns(21),
                    lacks(1), picture(1), count(1), fall(2), put(2, 0, 0), count(1))
        self.assertEqual(given[-1], [0, 0])

    def test_net_begins_anew(self):
        given = ask(put(1, 1, 0), take(1), cut([1]), count(1), net([1, 1], [1, 2]), count(1), cut([1]), count(1))
        self.assertEqual(given[3:], [[2, 2], [1], [-1], [1], [0, 0]])


class BeforeThePicture(unittest.TestCase):
    def test_deeds_of_one_that_had_not_recorded(self):
        given = ask(cut([1]), put(2, 1, 0), count(1), put(2, 1, 0), count(1))
        self.assertEqual(given[2::2], [[1, 1], [2, 2]])

    def test_deeds_of_one_that_had(self):
        given = ask(cut([1]), put(1, 1, 0), count(1), put(1, 1, 0), count(1))
        self.assertEqual(given[2::2], [[0, 1], [0, 2]])

    def test_a_taking_is_the_deed_of_the_one_that_gets(self):
        # of 1, which has recorded, though 2 that put it hasn't
        self.assertEqual(last(put(2, 1, 0), cut([1]), take(2), count(1)), [1, 2])
        # of 2, which hasn't, though 1 that put it has
        self.assertEqual(last(put(1, 1, 0), cut([1]), take(1), count(1)), [2, 2])

    def test_a_message_to_itself(self):
        before = [net([4, 5], [1, 1]), put(1, 1, 0), put(1, 1, 0)]
        self.assertEqual(last(*before, cut([1]), take(1), count(1)), [2, 3])
        self.assertEqual(last(*before, cut([2]), take(1), count(1)), [3, 3])

    def test_sent_on_by_one_that_has_recorded(self):
        given = ask(put(2, 4, 2), cut([1]), take(2), count(1), take(1), count(1), take(1), count(1))
        # the mark is ahead of what 1 sends on, so all later deeds come behind both records
        self.assertEqual(given[3::2], [[1, 2], [1, 2], [1, 3]])

    def test_until_the_mark_comes(self):
        given = ask(RING, cut([1]), put(2, 1, 0), take(1), put(2, 1, 0), put(3, 1, 0), count(1), join(1, 3),
                    put(3, 1, 0), count(1))
        self.assertEqual((given[6], given[9]), ([2, 3], [2, 4]))

    def test_a_whole_picture_has_no_more_of_them(self):
        given = ask(put(1, 1, 0), cut([1, 2]), turns(2), count(1), put(1, 1, 1), turns(20), count(1))
        self.assertEqual(given[3::3], [[1, 2], [1, 5]])

    def test_several_pictures_under_way(self):
        calls = [put(1, 1, 0), cut([1]), put(1, 1, 0), put(2, 1, 0), cut([2]), put(1, 1, 0), put(2, 1, 0),
                 put(2, 1, 0), cut([1, 2]), put(1, 0, 0), put(2, 0, 0), put(2, 0, 0), put(2, 0, 0),
                 count(1), count(2), count(3)]
        # 1 ahead of picture 1 and six of 2 since; 3 ahead of picture 2 and two of 1 since; 6 ahead of picture 3
        self.assertEqual(ask(*calls)[-3:], [[7, 10], [5, 10], [6, 10]])

    def test_a_fall_changes_no_count(self):
        given = ask(put(1, 1, 0), put(2, 1, 0), cut([1]), put(2, 1, 0), fall(2), count(1), fall(1), count(1))
        self.assertEqual(given[5::2], [[3, 3], [3, 3]])

    def test_a_dropped_one_does_not_touch_the_others(self):
        given = ask(cut([1]), cut([1]), put(2, 1, 0), drop(1), put(2, 1, 0), count(1), count(2))
        self.assertEqual(given[5:], [[-1], [2, 2]])


class CountRefusals(unittest.TestCase):
    def test_picture_is_not_kept(self):
        self.assertEqual(ask(count(0)), [[-1]])
        self.assertEqual(ask(count(1), cut([1]), count(0), count(1), count(2), count(MOST)),
                         [[-1], [1], [-1], [0, 0], [-1], [-1]])
        self.assertEqual(ask(cut([1]), drop(1), count(1))[2], [-1])
        self.assertEqual(ask(cut([1, 2]), turns(1), cut([1]), back(1), count(2), count(1))[4:], [[-1], [0, 0]])

    def test_all_is_as_it_was(self):
        check_refused(self, [put(1, 3, 1), cut([1]), cut([2]), drop(1)], count(1), -1)

    def test_asking_changes_nothing(self):
        before = [put(1, 3, 1), cut([1]), put(2, 1, 0)]
        self.assertEqual(ask_behind(before, count(1), count(1), take(1), count(1))[1:],
                         ask_behind(before, count(1), take(1), count(1)))


if __name__ == "__main__":
    unittest.main()
