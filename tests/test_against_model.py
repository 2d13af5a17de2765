"""Made-up lists, answered by the program and by a second telling of the document.

The second telling keeps no messages with a picture. It knows all that was ever put on each channel, and how
many of these had been put and taken when each process recorded: what a picture has on a channel are those
that were put before the one end's record and not taken before the other's.
"""

import random
import unittest

from coinpictures.net import answers
from tests.helper import MOST, cut, join, lacks, net, part, picture, put, take, turns


class Model:
    def __init__(self, purses=(10, 10), ends=(1, 2, 2, 1)):
        self.ends = {c + 1: (ends[2 * c], ends[2 * c + 1]) for c in range(len(ends) // 2)}
        self.own = {p + 1: (coins, 0) for p, coins in enumerate(purses)}
        self.queue = {c: () for c in self.ends}
        self.sent = {c: () for c in self.ends}
        self.got = {c: 0 for c in self.ends}
        self.records = []
        self.marked = []

    def put(self, c, coins, hops):
        p = self.ends[c][0]
        purse, memory = self.own[p]
        memory = (memory * 31 + c * 101 + hops * 7 + coins) % 65521
        self.own[p] = (purse - coins, memory)
        self.queue[c] += (("message", coins, memory, hops),)
        self.sent[c] += ((coins, memory, hops),)

    def record(self, k, p):
        sent = {c: len(self.sent[c]) for c in self.ends if self.ends[c][0] == p}
        got = {c: self.got[c] for c in self.ends if self.ends[c][1] == p}
        self.records[k - 1][p] = (self.own[p], sent, got)
        for c in sent:
            self.queue[c] += (("mark", k),)

    def take(self, c):
        first, self.queue[c] = self.queue[c][0], self.queue[c][1:]
        p = self.ends[c][1]
        if first[0] == "mark":
            new = p not in self.records[first[1] - 1]
            if new:
                self.record(first[1], p)
            self.marked[first[1] - 1].add(c)
            return [2, first[1], int(new)]
        coins, its, hops = first[1:]
        purse, memory = self.own[p]
        self.own[p] = (purse + coins, ((memory + its) * 31 + c * 101 + hops * 7 + coins) % 65521)
        self.got[c] += 1
        for d in sorted(self.ends):
            if hops and self.ends[d][0] == p:
                self.put(d, self.own[p][0] // 2, hops - 1)
        return [1, coins, hops, self.own[p][0]]

    def call_net(self, purses, ends):
        if not 2 <= len(purses) <= 8:
            return [-1]
        if any(coins > 1000 for coins in purses):
            return [-2]
        if len(ends) not in range(2, 33, 2):
            return [-3]
        if any(end not in range(1, len(purses) + 1) for end in ends):
            return [-4]
        self.__init__(purses, ends)
        return [len(ends) // 2]

    def call_put(self, c, coins, hops):
        if c not in self.ends:
            return [-1]
        if hops > 3:
            return [-2]
        if coins > self.own[self.ends[c][0]][0]:
            return [-3]
        self.put(c, coins, hops)
        return [self.own[self.ends[c][0]][0]]

    def call_take(self, c):
        if c not in self.ends:
            return [-1]
        return self.take(c) if self.queue[c] else [-5]

    def call_turns(self, t):
        if t > 20:
            return [-2]
        return [sum(1 for turn in range(t) for c in sorted(self.ends) if self.queue[c] and self.take(c))]

    def call_cut(self, told):
        if not told or len(set(told)) < len(told) or not set(told) <= set(self.own):
            return [-1]
        if len(self.records) == 8:
            return [-7]
        self.records.append({})
        self.marked.append(set())
        for p in told:
            self.record(len(self.records), p)
        return [len(self.records)]

    def call_join(self, k, p):
        if not 0 < k <= len(self.records) or p not in self.own:
            return [-1]
        if p in self.records[k - 1]:
            return [0]
        self.record(k, p)
        return [1]

    def call_lacks(self, k):
        if not 0 < k <= len(self.records):
            return [-1]
        processes = sorted(set(self.own) - set(self.records[k - 1]))
        channels = sorted(set(self.ends) - self.marked[k - 1])
        return [len(processes), *processes, len(channels), *channels]

    def call_picture(self, k):
        lacking = self.call_lacks(k)
        if lacking != [0, 0]:
            return [-1] if lacking == [-1] else [0]
        records = self.records[k - 1]
        told = [1]
        for p in sorted(records):
            told += records[p][0]
        for c in sorted(self.ends):
            source, target = self.ends[c]
            between = self.sent[c][records[target][2][c]:records[source][1][c]]
            told.append(len(between))
            for message in between:
                told += message
        return told


def ends_for(dice, count):
    length = dice.choice((1, 2, 3, 4, 5, 8, 16))
    return [dice.randint(1, count) for end in range(2 * length)]


def made_net(dice):
    count = dice.choice((2, 2, 3, 3, 4, 5, 8))
    purses = [dice.choice((0, 1, 10, 99, 1000, dice.randint(0, 1000))) for p in range(count)]
    ends = ends_for(dice, count)
    if dice.random() < 0.15:
        purses, ends = dice.choice((
            (purses[:1], ends), (purses * 5, ends), (purses + [1001], ends), (purses, []), (purses, ends[:-1]),
            (purses, ends * 33), (purses, ends[:-1] + [count + 1]), (purses, [0] + ends[1:])))
    return purses, ends


def number(dice, most):
    return dice.choice((0, most + 1, MOST)) if dice.random() < 0.05 else dice.randint(1, most)


def made_call(dice, model):
    """A call in both forms: as numbers, and as the model's method with what it is told."""
    count = len(model.own)
    c = number(dice, len(model.ends))
    k = number(dice, max(1, len(model.records)))
    name = dice.choices(("net", "put", "take", "turns", "cut", "join", "picture", "lacks"),
                        (1, 20, 34, 5, 10, 10, 14, 8))[0]
    if name == "net":
        told = made_net(dice)
    elif name == "put":
        purse = model.own[model.ends.get(c, (1, 1))[0]][0]
        told = (c, dice.choice((0, purse, purse + 1, dice.randint(0, purse), purse // 3)), dice.randint(0, 3 + (c == 1)))
    elif name == "take":
        told = (dice.choice([d for d in model.ends if model.queue[d]] or [c]) if dice.random() < 0.7 else c,)
    elif name == "turns":
        told = (dice.choice((0, 1, 1, 2, 3, 20, 21)),)
    elif name == "cut":
        told = (dice.choices(range(1, count + 1), k=1) if dice.random() < 0.6
                else [number(dice, count) for p in range(dice.randint(0, count))],)
    elif name == "join":
        told = (k, number(dice, count))
    else:
        told = (k,)
    written = {"net": net, "put": put, "take": take, "turns": turns, "cut": cut, "join": join, "picture": picture,
               "lacks": lacks}
    return name, written[name](*told), getattr(model, "call_" + name)(*told)


class AgainstModel(unittest.TestCase):
    def test_made_up_lists(self):
        seen = {}
        for seed in range(3000):
            dice = random.Random(seed)
            model = Model()
            calls = []
            expected = []
            if dice.random() < 0.8:
                purses, ends = made_net(dice)
                calls += net(purses, ends)
                expected.append(model.call_net(purses, ends))
            for step in range(dice.randint(1, 59)):
                name, written, answer = made_call(dice, model)
                calls += written
                expected.append(answer)
                kind = (name, min(answer[0], 1))
                seen[kind] = seen.get(kind, 0) + 1
                if name == "picture" and len(answer) > 1 + 2 * len(model.own) + len(model.ends):
                    seen["caught"] = seen.get("caught", 0) + 1
            with self.subTest(seed=seed):
                self.assertEqual(part(answers(calls)), expected)
        for kind in (("net", -1), ("net", -2), ("net", -3), ("net", -4), ("put", -1), ("put", -2), ("put", -3),
                     ("take", -1), ("take", -5), ("turns", -2), ("cut", -1), ("cut", -7), ("join", -1), ("join", 0),
                     ("join", 1), ("picture", -1), ("picture", 0), ("picture", 1), ("lacks", -1), "caught"):
            self.assertGreater(seen.get(kind, 0), 10, kind)


if __name__ == "__main__":
    unittest.main()
