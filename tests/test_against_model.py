"""Made-up lists, answered by the program and by a second telling of the document.

The second telling keeps no messages and counts no deeds with a picture. It knows all that was ever put on each
channel, and how many of these had been put and taken when each process recorded: what a picture has on a channel
are those that were put before the one end's record and not taken before the other's. It knows how many deeds each
process has done: before a picture are those that each had done when it recorded, or has done if it hasn't.
"""

import random
import unittest

from coinpictures.net import answers
from tests import helper
from tests.helper import MOST, ask, part


class Model:
    def __init__(self, purses=(10, 10), ends=(1, 2, 2, 1)):
        self.ends = {c + 1: (ends[2 * c], ends[2 * c + 1]) for c in range(len(ends) // 2)}
        self.own = {p + 1: (coins, 0) for p, coins in enumerate(purses)}
        self.down = set()
        self.deeds = {p: 0 for p in self.own}
        self.fill({c: () for c in self.ends})
        self.last = 0
        # of each kept picture: who recorded what, which channels are shut
        self.records = {}
        self.shut = {}
        # of each picture that was whole when a back was done: what it has on each channel
        self.frozen = {}

    def fill(self, messages):
        self.sent = dict(messages)
        self.got = {c: 0 for c in self.ends}
        self.queue = {c: tuple(("message", *message) for message in messages[c]) for c in self.ends}

    def put(self, c, coins, hops):
        p = self.ends[c][0]
        purse, memory = self.own[p]
        memory = (memory * 31 + c * 101 + hops * 7 + coins) % 65521
        self.own[p] = (purse - coins, memory)
        self.queue[c] += (("message", coins, memory, hops),)
        self.sent[c] += ((coins, memory, hops),)

    def record(self, k, p):
        sent = {c: len(self.sent[c]) for c in self.ends if self.ends[c][0] == p}
        got = {c: self.got[c] for c in self.ends if self.ends[c][1] == p}
        self.records[k][p] = (self.own[p], sent, got, self.deeds[p])
        for c in sent:
            self.queue[c] += (("mark", k),)

    def take(self, c):
        first, self.queue[c] = self.queue[c][0], self.queue[c][1:]
        p = self.ends[c][1]
        if first[0] == "mark":
            if first[1] not in self.records:
                return [2, first[1], 0]
            new = p not in self.records[first[1]]
            if new:
                self.record(first[1], p)
            self.shut[first[1]].add(c)
            return [2, first[1], int(new)]
        coins, its, hops = first[1:]
        purse, memory = self.own[p]
        self.own[p] = (purse + coins, ((memory + its) * 31 + c * 101 + hops * 7 + coins) % 65521)
        self.got[c] += 1
        self.deeds[p] += 1
        for d in sorted(self.ends):
            if hops and self.ends[d][0] == p:
                self.put(d, self.own[p][0] // 2, hops - 1)
        return [1, coins, hops, self.own[p][0]]

    def whole(self, k):
        return len(self.records[k]) == len(self.own) and len(self.shut[k]) == len(self.ends)

    def on_channels(self, k):
        if k in self.frozen:
            return self.frozen[k]
        between = {}
        for c, (source, target) in self.ends.items():
            between[c] = self.sent[c][self.records[k][target][2][c]:self.records[k][source][1][c]]
        return between

    def call_net(self, purses, ends):
        if not 2 <= len(purses) <= 8:
            return [-1]
        if any(coins > 1000 for coins in purses):
            return [-2]
        if len(ends) not in range(2, 33, 2):
            return [-3]
        if any(end not in range(1, len(purses) + 1) for end in ends):
            return [-4]
        self.__init__(purses, ends)
        return [len(ends) // 2]

    def call_put(self, c, coins, hops):
        if c not in self.ends:
            return [-1]
        p = self.ends[c][0]
        if p in self.down:
            return [-6]
        if hops > 3:
            return [-2]
        if coins > self.own[p][0]:
            return [-3]
        self.put(c, coins, hops)
        self.deeds[p] += 1
        return [self.own[p][0]]

    def call_take(self, c):
        if c not in self.ends:
            return [-1]
        if self.ends[c][1] in self.down:
            return [-6]
        return self.take(c) if self.queue[c] else [-5]

    def call_turns(self, t):
        if t > 20:
            return [-2]
        return [sum(1 for turn in range(t) for c in sorted(self.ends) if self.call_take(c)[0] > 0)]

    def call_cut(self, told):
        if not told or len(set(told)) < len(told) or not set(told) <= set(self.own):
            return [-1]
        if set(told) & self.down:
            return [-6]
        if len(self.records) == 8:
            return [-7]
        self.last += 1
        self.records[self.last] = {}
        self.shut[self.last] = set()
        for p in told:
            self.record(self.last, p)
        return [self.last]

    def call_join(self, k, p):
        if k not in self.records or p not in self.own:
            return [-1]
        if p in self.down:
            return [-6]
        if p in self.records[k]:
            return [0]
        self.record(k, p)
        return [1]

    def call_lacks(self, k):
        if k not in self.records:
            return [-1]
        processes = sorted(set(self.own) - set(self.records[k]))
        channels = sorted(set(self.ends) - self.shut[k])
        return [len(processes), *processes, len(channels), *channels]

    def call_picture(self, k):
        if k not in self.records:
            return [-1]
        if not self.whole(k):
            return [0]
        told = [1]
        for p in sorted(self.own):
            told += self.records[k][p][0]
        for c, between in sorted(self.on_channels(k).items()):
            told.append(len(between))
            for message in between:
                told += message
        return told

    def call_count(self, k):
        if k not in self.records:
            return [-1]
        before = {**self.deeds, **{p: record[3] for p, record in self.records[k].items()}}
        return [sum(before.values()), sum(self.deeds.values())]

    def call_fall(self, p):
        if p not in self.own:
            return [-1]
        if p in self.down:
            return [-6]
        lost = self.own[p][0]
        self.own[p] = (0, 0)
        self.down.add(p)
        return [lost]

    def call_back(self, k):
        if k not in self.records:
            return [-1]
        if not self.whole(k):
            return [-8]
        self.frozen = {number: self.on_channels(number) for number in self.records if self.whole(number)}
        self.records = {number: self.records[number] for number in self.frozen}
        self.shut = {number: self.shut[number] for number in self.frozen}
        self.own = {p: self.records[k][p][0] for p in self.own}
        self.deeds = {p: self.records[k][p][3] for p in self.own}
        self.down = set()
        self.fill(self.frozen[k])
        return [sum(self.call_total())]

    def call_drop(self, k):
        if k not in self.records:
            return [-1]
        self.records.pop(k)
        return [len(self.records)]

    def call_shows(self):
        return [number for p in sorted(self.own) for number in (*self.own[p], int(p in self.down))]

    def call_channel(self, c):
        if c not in self.ends:
            return [-1]
        told = [len(self.queue[c])]
        for thing in self.queue[c]:
            told += (2 if thing[0] == "mark" else 1, *thing[1:])
        return told

    def call_total(self):
        on_channels = [thing[1] for things in self.queue.values() for thing in things if thing[0] == "message"]
        return [sum(purse for purse, memory in self.own.values()), sum(on_channels)]

    def call_newest(self):
        return [max([0] + [k for k in self.records if self.whole(k)])]


def ends_for(dice, count):
    if dice.random() < 0.5:
        # a ring, so that marks come to everybody
        return [end for p in range(1, count + 1) for end in (p, p % count + 1)]
    length = dice.choice((1, 2, 3, 4, 5, 8, 16))
    return [dice.randint(1, count) for end in range(2 * length)]


def made_net(dice):
    count = dice.choice((2, 2, 3, 3, 4, 5, 8))
    purses = [dice.choice((0, 1, 10, 99, 1000, dice.randint(0, 1000))) for p in range(count)]
    ends = ends_for(dice, count)
    if dice.random() < 0.15:
        purses, ends = dice.choice((
            (purses[:1], ends), (purses * 5, ends), (purses + [1001], ends), (purses, []), (purses, ends[:-1]),
            (purses, ends * 33), (purses, ends[:-1] + [count + 1]), (purses, [0] + ends[1:])))
    return purses, ends


def number(dice, most):
    return dice.choice((0, most + 1, MOST)) if dice.random() < 0.05 else dice.randint(1, most)


CALLS = {"net": 0.5, "put": 20, "take": 34, "turns": 6, "cut": 10, "join": 8, "picture": 8, "lacks": 5, "count": 8,
         "fall": 1, "back": 6, "drop": 2, "shows": 5, "channel": 8, "total": 3, "newest": 3}


def made_put(dice, model, c):
    purse = model.own[model.ends.get(c, (1, 1))[0]][0]
    return c, dice.choice((0, purse, purse + 1, dice.randint(0, purse), purse // 3)), dice.randint(0, 3 + (c == 1))


def made_call(dice, model, name):
    """A call in both forms: as numbers, and as the model answers it."""
    count = len(model.own)
    c = number(dice, len(model.ends))
    k = dice.choice(list(model.records)) if model.records and dice.random() < 0.8 else number(dice, model.last + 1)
    told = (k,)
    whole = [kept for kept in model.records if model.whole(kept)]
    if name == "back" and whole and dice.random() < 0.5:
        told = (dice.choice(whole),)
    elif name == "net":
        told = made_net(dice)
    elif name == "put":
        told = made_put(dice, model, c)
    elif name == "take":
        told = (dice.choice([d for d in model.ends if model.queue[d]] or [c]) if dice.random() < 0.8 else c,)
    elif name == "turns":
        told = (dice.choice((0, 1, 1, 2, 3, 5, 20, 20, 21)),)
    elif name == "cut":
        told = (dice.choice((dice.choices(range(1, count + 1), k=1), dice.sample(range(1, count + 1), count),
                             [number(dice, count) for p in range(dice.randint(0, count))])),)
    elif name == "join":
        told = (k, number(dice, count))
    elif name == "fall":
        told = (number(dice, count),)
    elif name == "channel":
        told = (c,)
    elif name in ("shows", "total", "newest"):
        told = ()
    return getattr(helper, name)(*told), getattr(model, "call_" + name)(*told)


class AgainstModel(unittest.TestCase):
    def test_made_up_lists(self):
        seen = {}
        for seed in range(5000):
            dice = random.Random(seed)
            model = Model()
            calls = []
            expected = []
            names = ["net"] if dice.random() < 0.8 else []
            weights = [weight * dice.choice((0.2, 1, 3)) for weight in CALLS.values()]
            names += dice.choices(list(CALLS), weights, k=dice.choice((1, 30, 59, 59, 59, 59)))
            for name in names:
                written, answer = made_call(dice, model, name)
                calls += written
                expected.append(answer)
                kinds = [(name, min(answer[0], 1))]
                if name == "picture" and len(answer) > 1 + 2 * len(model.own) + len(model.ends):
                    kinds.append("caught")
                if name == "back" and answer[0] >= 0 and any(model.queue.values()):
                    kinds.append("back with messages")
                if name == "count" and answer[0] > answer[-1]:
                    kinds.append("back to an earlier one")
                for kind in kinds:
                    seen[kind] = seen.get(kind, 0) + 1
            with self.subTest(seed=seed):
                self.assertEqual(part(answers(calls)), expected)
        for kind in (("net", -1), ("net", -2), ("net", -3), ("net", -4), ("put", -1), ("put", -6), ("put", -2),
                     ("put", -3), ("take", -1), ("take", -6), ("take", -5), ("turns", -2), ("cut", -1), ("cut", -6),
                     ("cut", -7), ("join", -1), ("join", -6), ("join", 0), ("join", 1), ("picture", -1),
                     ("picture", 0), ("picture", 1), ("lacks", -1), ("count", -1), ("count", 1), ("fall", -1),
                     ("fall", -6), ("back", -1), ("back", -8), ("back", 1), ("drop", -1), ("drop", 0), ("drop", 1),
                     ("channel", -1), ("channel", 1), ("newest", 0), ("newest", 1), "caught", "back with messages",
                     "back to an earlier one"):
            self.assertGreater(seen.get(kind, 0), 10, kind)


class SameDeedsInAnotherOrder(unittest.TestCase):
    """What a picture stands for: the deeds before it, done first, lead to just what the picture has."""

    def made_run(self, dice):
        """Calls by which deeds are done and pictures taken; each deed with the pictures it comes before; the model."""
        count = dice.randint(2, 4)
        ring = [end for p in range(1, count + 1) for end in (p, p % count + 1)]
        ends = ring + [dice.randint(1, count) for end in range(2 * dice.randint(0, 3))]
        made = helper.net([dice.randint(0, 99) for p in range(count)], ends)
        model = Model(made[2:2 + count], ends)
        calls = [made]
        deeds = []
        while len(calls) < 50:
            c = dice.randint(1, len(ends) // 2)
            name = dice.choices(("put", "take", "cut", "fall"), (3, 30, 2, 0.2))[0]
            told = {"put": (c, dice.randint(0, 9), dice.randint(0, 2)), "take": (c,), "cut": ([1 + c % count],),
                    "fall": (1 + c % count,)}[name]
            answer = getattr(model, "call_" + name)(*told)
            calls.append(getattr(helper, name)(*told))
            if name == "put" and answer[0] >= 0 or name == "take" and answer[0] == 1:
                who = model.ends[c][name == "take"]
                # it comes before the pictures that it didn't record for yet, and those that aren't begun yet
                before = [k for k in range(1, 9) if who not in model.records.get(k, {})]
                deeds.append((calls[-1], before))
        return calls, deeds, model

    def test_lead_to_the_picture(self):
        tried = 0
        for seed in range(400):
            calls, deeds, model = self.made_run(random.Random(seed))
            for k in [k for k in model.records if model.whole(k)]:
                tried += 1
                first = [call for call, before in deeds if k in before]
                looks = [helper.shows(), *[helper.channel(c) for c in model.ends]]
                reached = ask(calls[0], *first)
                with self.subTest(seed=seed, k=k):
                    self.assertTrue(all(answer[0] >= 0 for answer in reached))
                    self.assertEqual(ask(*calls, helper.count(k))[-1], [len(first), len(deeds)])
                    self.assertEqual(helper.ask_behind([calls[0], *first], *looks),
                                     helper.ask_behind([*calls, helper.back(k)], *looks))
        self.assertGreater(tried, 300)


if __name__ == "__main__":
    unittest.main()
