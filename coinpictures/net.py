"""The calls on one net: read from one list of whole numbers, answered in another."""

from coinpictures.state import MARK, MESSAGE, Mark, Net

FIRST_PURSES = (10, 10)
FIRST_ENDS = (1, 2, 2, 1)
FEWEST_PROCESSES = 2
MOST_PROCESSES = 8
MOST_COINS = 1000
FEWEST_ENDS = 2
MOST_ENDS = 32
MOST_HOPS = 3
MOST_ROUNDS = 20
MOST_PICTURES = 8


class Reader:
    def __init__(self, numbers):
        self.numbers = numbers
        self.place = 0

    def has_more(self):
        return self.place < len(self.numbers)

    def read_number(self):
        number = self.numbers[self.place]
        self.place += 1
        return number

    def read_row(self):
        length = self.read_number()
        row = self.numbers[self.place:self.place + length]
        self.place += length
        return row


def answer_net(net, reader):
    purses = reader.read_row()
    ends = reader.read_row()
    if len(purses) < FEWEST_PROCESSES or len(purses) > MOST_PROCESSES:
        return [-1]
    if max(purses) > MOST_COINS:
        return [-2]
    if len(ends) < FEWEST_ENDS or len(ends) > MOST_ENDS or len(ends) % 2 == 1:
        return [-3]
    if min(ends) < 1 or max(ends) > len(purses):
        return [-4]
    net.lay(purses, ends)
    return [len(net.channels)]


def answer_put(net, reader):
    c = reader.read_number()
    coins = reader.read_number()
    hops = reader.read_number()
    if not net.has_channel(c):
        return [-1]
    sender = net.sender(c)
    if sender.down:
        return [-6]
    if hops > MOST_HOPS:
        return [-2]
    if coins > sender.purse:
        return [-3]
    net.put_as_deed(c, coins, hops)
    return [sender.purse]


def answer_take(net, reader):
    c = reader.read_number()
    if not net.has_channel(c):
        return [-1]
    if net.getter(c).down:
        return [-6]
    if not net.channel(c).waiting:
        return [-5]
    return net.take_first(c)


def answer_turns(net, reader):
    rounds = reader.read_number()
    if rounds > MOST_ROUNDS:
        return [-2]
    taken = 0
    for turn in range(rounds):
        taken += net.take_round()
    return [taken]


def are_processes_told_once(net, told):
    seen = {}
    for p in told:
        if p in seen or not net.has_process(p):
            return False
        seen[p] = True
    return True


def answer_cut(net, reader):
    told = reader.read_row()
    if not told or not are_processes_told_once(net, told):
        return [-1]
    for p in told:
        if net.process(p).down:
            return [-6]
    if len(net.pictures) >= MOST_PICTURES:
        return [-7]
    k = net.begin_picture()
    for p in told:
        net.record(k, p)
    return [k]


def answer_join(net, reader):
    k = reader.read_number()
    p = reader.read_number()
    if not net.has_picture(k) or not net.has_process(p):
        return [-1]
    if net.process(p).down:
        return [-6]
    return [1 if net.record_once(k, p) else 0]


def tell_picture(picture):
    told = [1]
    for p in range(1, picture.process_count + 1):
        told.extend(picture.records[p])
    for messages in picture.caught:
        told.append(len(messages))
        for message in messages:
            told.extend([message.coins, message.memory, message.hops])
    return told


def answer_picture(net, reader):
    k = reader.read_number()
    if not net.has_picture(k):
        return [-1]
    picture = net.pictures[k]
    if not picture.is_whole():
        return [0]
    return tell_picture(picture)


def answer_lacks(net, reader):
    k = reader.read_number()
    if not net.has_picture(k):
        return [-1]
    picture = net.pictures[k]
    missing = [p for p in range(1, len(net.processes) + 1) if not picture.has_record(p)]
    unshut = [c for c in range(1, len(net.channels) + 1) if not picture.is_shut(c)]
    return [len(missing)] + missing + [len(unshut)] + unshut


def answer_count(net, reader):
    k = reader.read_number()
    if not net.has_picture(k):
        return [-1]
    return [net.pictures[k].deeds_before, net.deeds]


def answer_fall(net, reader):
    p = reader.read_number()
    if not net.has_process(p):
        return [-1]
    process = net.process(p)
    if process.down:
        return [-6]
    lost = process.purse
    process.fall()
    return [lost]


def answer_back(net, reader):
    k = reader.read_number()
    if not net.has_picture(k):
        return [-1]
    picture = net.pictures[k]
    if not picture.is_whole():
        return [-8]
    net.go_back(k)
    return [picture.all_coins()]


def answer_drop(net, reader):
    k = reader.read_number()
    if not net.has_picture(k):
        return [-1]
    net.drop_picture(k)
    return [len(net.pictures)]


def answer_shows(net, reader):
    told = []
    for process in net.processes:
        told.extend([process.purse, process.memory, 1 if process.down else 0])
    return told


def tell_waiting(thing):
    if isinstance(thing, Mark):
        return [MARK, thing.picture_number]
    return [MESSAGE, thing.coins, thing.memory, thing.hops]


def answer_channel(net, reader):
    c = reader.read_number()
    if not net.has_channel(c):
        return [-1]
    waiting = net.channel(c).waiting
    told = [len(waiting)]
    for thing in waiting:
        told.extend(tell_waiting(thing))
    return told


def answer_total(net, reader):
    return [net.coins_in_purses(), net.coins_on_channels()]


def answer_newest(net, reader):
    return [max(net.whole_pictures(), default=0)]


# A call's number is its place here.
CALLS = (
    answer_net,
    answer_put,
    answer_take,
    answer_turns,
    answer_cut,
    answer_join,
    answer_picture,
    answer_lacks,
    answer_count,
    answer_fall,
    answer_back,
    answer_drop,
    answer_shows,
    answer_channel,
    answer_total,
    answer_newest,
)


def answers(calls):
    net = Net(FIRST_PURSES, FIRST_ENDS)
    reader = Reader(calls)
    given = []
    while reader.has_more():
        answer_call = CALLS[reader.read_number()]
        answered = answer_call(net, reader)
        given.append(len(answered))
        given.extend(answered)
    return given
