"""Writes calls as lists of whole numbers, and parts the answers again call by call."""

from coinpictures.net import answers

MOST = 4294967295


def net(purses, ends):
    return [0, len(purses)] + purses + [len(ends)] + ends


def put(c, coins, hops):
    return [1, c, coins, hops]


def take(c):
    return [2, c]


def turns(t):
    return [3, t]


def cut(processes):
    return [4, len(processes)] + processes


def join(k, p):
    return [5, k, p]


def picture(k):
    return [6, k]


def lacks(k):
    return [7, k]


def part(given):
    """The answers, one list for each call."""
    parts = []
    place = 0
    while place < len(given):
        length = given[place]
        if length < 1 or place + 1 + length > len(given):
            raise AssertionError(f"a wrong count at {place} of {given}")
        parts.append(given[place + 1:place + 1 + length])
        place += 1 + length
    return parts


def ask(*calls):
    """What each of these calls answers, one behind another on one net."""
    return part(answers([number for call in calls for number in call]))


def last(*calls):
    """What the last of these calls answers."""
    return ask(*calls)[-1]
