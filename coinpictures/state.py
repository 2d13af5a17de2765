"""The state of a net: its processes, channels and pictures, and how they change."""

MESSAGE = 1
MARK = 2
MODULUS = 65521


class Message:
    def __init__(self, coins, memory, hops):
        self.coins = coins
        self.memory = memory
        self.hops = hops


class Mark:
    def __init__(self, picture_number):
        self.picture_number = picture_number


class Process:
    def __init__(self, purse):
        self.purse = purse
        self.memory = 0
        self.down = False
        self.leaving = []


class Channel:
    def __init__(self, source, target):
        self.source = source
        self.target = target
        self.waiting = []


class Picture:
    def __init__(self, process_count, channel_count):
        self.process_count = process_count
        self.records = {}
        self.shut = {}
        self.caught = [[] for c in range(channel_count)]

    def has_record(self, p):
        return p in self.records

    def is_shut(self, c):
        return c in self.shut

    def is_whole(self):
        return len(self.records) == self.process_count and len(self.shut) == len(self.caught)

    # What comes behind the process' own record and ahead of the channel's mark was on the channel.
    def see_message(self, c, p, message):
        if self.has_record(p) and not self.is_shut(c):
            self.caught[c - 1].append(message)


class Net:
    def __init__(self, purses, ends):
        self.lay(purses, ends)

    # Apart from __init__, since the call net makes all anew on the same object.
    def lay(self, purses, ends):
        self.processes = [Process(purse) for purse in purses]
        self.channels = [Channel(ends[k], ends[k + 1]) for k in range(0, len(ends), 2)]
        self.pictures = {}
        self.begun = 0
        for c in range(1, len(self.channels) + 1):
            self.sender(c).leaving.append(c)

    def has_process(self, p):
        return 1 <= p <= len(self.processes)

    def has_channel(self, c):
        return 1 <= c <= len(self.channels)

    def has_picture(self, k):
        return k in self.pictures

    def process(self, p):
        return self.processes[p - 1]

    def channel(self, c):
        return self.channels[c - 1]

    def sender(self, c):
        return self.process(self.channel(c).source)

    def getter(self, c):
        return self.process(self.channel(c).target)

    def put_message(self, c, coins, hops):
        sender = self.sender(c)
        sender.purse -= coins
        sender.memory = (31 * sender.memory + 101 * c + 7 * hops + coins) % MODULUS
        self.channel(c).waiting.append(Message(coins, sender.memory, hops))

    def get_message(self, c, message):
        getter = self.getter(c)
        getter.purse += message.coins
        memories = getter.memory + message.memory
        getter.memory = (31 * memories + 101 * c + 7 * message.hops + message.coins) % MODULUS
        if message.hops >= 1:
            self.send_on(getter, message.hops - 1)

    # Each message takes half of what the ones ahead of it have left, so the purse is read anew.
    def send_on(self, process, hops):
        for c in process.leaving:
            self.put_message(c, process.purse // 2, hops)

    def begin_picture(self):
        self.begun += 1
        self.pictures[self.begun] = Picture(len(self.processes), len(self.channels))
        return self.begun

    def record(self, k, p):
        process = self.process(p)
        self.pictures[k].records[p] = (process.purse, process.memory)
        for c in process.leaving:
            self.channel(c).waiting.append(Mark(k))

    def record_once(self, k, p):
        if self.pictures[k].has_record(p):
            return False
        self.record(k, p)
        return True

    def take_first(self, c):
        first = self.channel(c).waiting.pop(0)
        if isinstance(first, Mark):
            return self.take_mark(c, first.picture_number)
        return self.take_message(c, first)

    def take_mark(self, c, k):
        if not self.has_picture(k):
            return [MARK, k, 0]
        recorded = self.record_once(k, self.channel(c).target)
        self.pictures[k].shut[c] = True
        return [MARK, k, 1 if recorded else 0]

    def take_message(self, c, message):
        p = self.channel(c).target
        for picture in self.pictures.values():
            picture.see_message(c, p, message)
        self.get_message(c, message)
        return [MESSAGE, message.coins, message.hops, self.process(p).purse]

    def take_round(self):
        taken = 0
        for c in range(1, len(self.channels) + 1):
            if self.channel(c).waiting and not self.getter(c).down:
                self.take_first(c)
                taken += 1
        return taken
