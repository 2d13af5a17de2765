"""The refusals -6 of points 2, 3, 5 and 6, and turns past a process that is down.

No call of a list puts a process down yet, so these set it on the net itself.
"""

import unittest

from coinpictures.net import Reader, answer_cut, answer_join, answer_put, answer_take, answer_turns
from coinpictures.state import Net


def net_with_down(p):
    net = Net((10, 10), (1, 2, 2, 1))
    net.put_message(1, 3, 0)
    net.put_message(2, 2, 0)
    net.begin_picture()
    net.process(p).down = True
    return net


class Down(unittest.TestCase):
    def test_put_from_it(self):
        net = net_with_down(1)
        self.assertEqual(answer_put(net, Reader([3, 99, 9])), [-1])
        self.assertEqual(answer_put(net, Reader([1, 99, 9])), [-6])
        self.assertEqual(answer_put(net, Reader([1, 0, 0])), [-6])
        self.assertEqual(answer_put(net, Reader([2, 1, 0])), [7])
        self.assertEqual([len(channel.waiting) for channel in net.channels], [1, 2])

    def test_take_by_it(self):
        net = net_with_down(1)
        self.assertEqual(answer_take(net, Reader([3])), [-1])
        self.assertEqual(answer_take(net, Reader([2])), [-6])
        self.assertEqual(answer_take(net, Reader([1])), [1, 3, 0, 11])
        net.channel(2).waiting.clear()
        self.assertEqual(answer_take(net, Reader([2])), [-6])

    def test_turns_leaves_what_it_would_get(self):
        net = net_with_down(1)
        self.assertEqual(answer_turns(net, Reader([20])), [1])
        self.assertEqual([len(channel.waiting) for channel in net.channels], [0, 1])

    def test_cut_with_it(self):
        net = net_with_down(2)
        self.assertEqual(answer_cut(net, Reader([2, 2, 2])), [-1])
        self.assertEqual(answer_cut(net, Reader([2, 2, 3])), [-1])
        self.assertEqual(answer_cut(net, Reader([2, 1, 2])), [-6])
        self.assertEqual(len(net.channel(1).waiting), 1)
        self.assertEqual(answer_cut(net, Reader([1, 1])), [2])
        for k in range(3, 9):
            net.begin_picture()
        self.assertEqual(answer_cut(net, Reader([1, 2])), [-6])
        self.assertEqual(answer_cut(net, Reader([1, 1])), [-7])

    def test_join_of_it(self):
        net = net_with_down(2)
        self.assertEqual(answer_join(net, Reader([9, 2])), [-1])
        self.assertEqual(answer_join(net, Reader([1, 2])), [-6])
        self.assertEqual(answer_join(net, Reader([1, 1])), [1])
        net.process(1).down = True
        self.assertEqual(answer_join(net, Reader([1, 1])), [-6])


class NotKept(unittest.TestCase):
    def test_mark_of_a_picture_that_is_not_kept(self):
        net = Net((10, 10), (1, 2, 2, 1))
        self.assertEqual(answer_cut(net, Reader([1, 1])), [1])
        net.pictures.pop(1)
        self.assertEqual(answer_take(net, Reader([1])), [2, 1, 0])
        self.assertEqual(answer_take(net, Reader([2])), [-5])


if __name__ == "__main__":
    unittest.main()
