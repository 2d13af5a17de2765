"""Writes calls as lists of whole numbers, and parts the answers again call by call."""

from coinpictures.net import answers

MOST = 4294967295


def net(purses, ends):
    return [0, len(purses)] + purses + [len(ends)] + ends


def put(c, coins, hops):
    return [1, c, coins, hops]


def take(c):
    return [2, c]


def turns(t):
    return [3, t]


def cut(processes):
    return [4, len(processes)] + processes


def join(k, p):
    return [5, k, p]


def picture(k):
    return [6, k]


def lacks(k):
    return [7, k]


def count(k):
    return [8, k]


def fall(p):
    return [9, p]


def back(k):
    return [10, k]


def drop(k):
    return [11, k]


def shows():
    return [12]


def channel(c):
    return [13, c]


def total():
    return [14]


def newest():
    return [15]


def part(given):
    """The answers, one list for each call."""
    parts = []
    place = 0
    while place < len(given):
        length = given[place]
        if length < 1 or place + 1 + length > len(given):
            raise AssertionError(f"a wrong count at {place} of {given}")
        parts.append(given[place + 1:place + 1 + length])
        place += 1 + length
    return parts


def ask(*calls):
    """What each of these calls answers, one behind another on one net."""
    if len(calls) > 60:
        raise AssertionError("a list has at most 60 calls")
    return part(answers([number for call in calls for number in call]))


def ask_behind(before, *calls):
    """What each of these calls answers behind those that come before."""
    return ask(*before, *calls)[len(before):]


def last(*calls):
    """What the last of these calls answers."""
    return ask(*calls)[-1]


def look():
    """Calls that together show all of a net with up to five channels and pictures, and then the next picture."""
    calls = [shows(), total(), newest()]
    for n in range(1, 6):
        calls += [channel(n), lacks(n), picture(n), count(n)]
    return calls + [cut([1]), cut([2])]


def check_refused(test, before, refused, answer):
    """Behind these calls the refused one answers so, and all is as it was."""
    with test.subTest(refused=refused):
        given = ask_behind(before, refused, *look(), turns(3), *look())
        test.assertEqual(given[0], [answer])
        test.assertEqual(given[1:], ask_behind(before, *look(), turns(3), *look()))
