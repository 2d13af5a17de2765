"""The state of a net: its processes, channels and pictures, and how they change."""

MESSAGE = 1
MARK = 2
MODULUS = 65521


class Message:
    def __init__(self, coins, memory, hops):
        self.coins = coins
        self.memory = memory
        self.hops = hops


class Mark:
    def __init__(self, picture_number):
        self.picture_number = picture_number


def coins_among(waiting):
    return sum([thing.coins for thing in waiting if isinstance(thing, Message)])


class Process:
    def __init__(self, purse):
        self.purse = purse
        self.memory = 0
        self.down = False
        self.leaving = []

    def fall(self):
        self.purse = 0
        self.memory = 0
        self.down = True

    def rise(self, purse, memory):
        self.purse = purse
        self.memory = memory
        self.down = False


class Channel:
    def __init__(self, source, target):
        self.source = source
        self.target = target
        self.waiting = []


class Picture:
    def __init__(self, process_count, channel_count, deeds_before):
        self.process_count = process_count
        self.deeds_before = deeds_before
        self.records = {}
        self.shut = {}
        self.caught = [[] for c in range(channel_count)]

    def has_record(self, p):
        return p in self.records

    def is_shut(self, c):
        return c in self.shut

    def is_whole(self):
        return len(self.records) == self.process_count and len(self.shut) == len(self.caught)

    # What comes behind the process' own record and ahead of the channel's mark was on the channel.
    def see_message(self, c, p, message):
        if self.has_record(p) and not self.is_shut(c):
            self.caught[c - 1].append(message)

    # What a process does ahead of its own record goes into the picture, whenever the picture was begun.
    def see_deed(self, p):
        if not self.has_record(p):
            self.deeds_before += 1

    def all_coins(self):
        in_purses = sum([record[0] for record in self.records.values()])
        return in_purses + sum([coins_among(messages) for messages in self.caught])


class Net:
    def __init__(self, purses, ends):
        self.lay(purses, ends)

    # Apart from __init__, since the call net makes all anew on the same object.
    def lay(self, purses, ends):
        self.processes = [Process(purse) for purse in purses]
        self.channels = [Channel(ends[k], ends[k + 1]) for k in range(0, len(ends), 2)]
        self.pictures = {}
        self.begun = 0
        self.deeds = 0
        for c in range(1, len(self.channels) + 1):
            self.sender(c).leaving.append(c)

    def has_process(self, p):
        return 1 <= p <= len(self.processes)

    def has_channel(self, c):
        return 1 <= c <= len(self.channels)

    def has_picture(self, k):
        return k in self.pictures

    def process(self, p):
        return self.processes[p - 1]

    def channel(self, c):
        return self.channels[c - 1]

    def sender(self, c):
        return self.process(self.channel(c).source)

    def getter(self, c):
        return self.process(self.channel(c).target)

    def coins_in_purses(self):
        return sum([process.purse for process in self.processes])

    def coins_on_channels(self):
        return sum([coins_among(channel.waiting) for channel in self.channels])

    def count_deed(self, p):
        self.deeds += 1
        for picture in self.pictures.values():
            picture.see_deed(p)

    # Apart from put_message, since what is sent on belongs to the deed of the taking.
    def put_as_deed(self, c, coins, hops):
        self.count_deed(self.channel(c).source)
        self.put_message(c, coins, hops)

    def put_message(self, c, coins, hops):
        sender = self.sender(c)
        sender.purse -= coins
        sender.memory = (31 * sender.memory + 101 * c + 7 * hops + coins) % MODULUS
        self.channel(c).waiting.append(Message(coins, sender.memory, hops))

    def get_message(self, c, message):
        getter = self.getter(c)
        getter.purse += message.coins
        memories = getter.memory + message.memory
        getter.memory = (31 * memories + 101 * c + 7 * message.hops + message.coins) % MODULUS
        if message.hops >= 1:
            self.send_on(getter, message.hops - 1)

    # Each message takes half of what the ones ahead of it have left, so the purse is read anew.
    def send_on(self, process, hops):
        for c in process.leaving:
            self.put_message(c, process.purse // 2, hops)

    def begin_picture(self):
        self.begun += 1
        self.pictures[self.begun] = Picture(len(self.processes), len(self.channels), self.deeds)
        return self.begun

    def record(self, k, p):
        process = self.process(p)
        self.pictures[k].records[p] = (process.purse, process.memory)
        for c in process.leaving:
            self.channel(c).waiting.append(Mark(k))

    def record_once(self, k, p):
        if self.pictures[k].has_record(p):
            return False
        self.record(k, p)
        return True

    def take_first(self, c):
        first = self.channel(c).waiting.pop(0)
        if isinstance(first, Mark):
            return self.take_mark(c, first.picture_number)
        return self.take_message(c, first)

    def take_mark(self, c, k):
        if not self.has_picture(k):
            return [MARK, k, 0]
        recorded = self.record_once(k, self.channel(c).target)
        self.pictures[k].shut[c] = True
        return [MARK, k, 1 if recorded else 0]

    def take_message(self, c, message):
        p = self.channel(c).target
        self.count_deed(p)
        for picture in self.pictures.values():
            picture.see_message(c, p, message)
        self.get_message(c, message)
        return [MESSAGE, message.coins, message.hops, self.process(p).purse]

    def take_round(self):
        taken = 0
        for c in range(1, len(self.channels) + 1):
            if self.channel(c).waiting and not self.getter(c).down:
                self.take_first(c)
                taken += 1
        return taken

    def drop_picture(self, k):
        self.pictures.pop(k)

    def whole_pictures(self):
        return [k for k in self.pictures if self.pictures[k].is_whole()]

    def keep_whole_pictures(self):
        kept = {}
        for k in self.whole_pictures():
            kept[k] = self.pictures[k]
        self.pictures = kept

    def go_back(self, k):
        picture = self.pictures[k]
        for p in range(1, len(self.processes) + 1):
            record = picture.records[p]
            self.process(p).rise(record[0], record[1])
        for c in range(1, len(self.channels) + 1):
            channel = self.channel(c)
            # A copy, since the picture keeps its messages when they are taken from the channel.
            channel.waiting = list(picture.caught[c - 1])
        self.keep_whole_pictures()
        self.deeds = picture.deeds_before
