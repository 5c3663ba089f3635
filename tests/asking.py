"""Writes calls by their names, and takes the answers apart, call by call."""

from turningtray.dishes import answers

FAR = 4294967295


def table(n):
    return [0, n]


def wish(guest, dish):
    return [1, guest, dish]


def behind(one, other):
    return [2, one, other]


def step(way):
    return [3, way]


def soon(one):
    return [6, one]


def follow(n):
    return [9, n]


RIGHT = step(0)
LEFT = step(1)
STANDS = [4]
OPEN_WISHES = [5]
FEWEST = [7]
LEAST = [8]


def asked(*calls):
    """The answers to the calls, a list for each."""
    handed = [number for call in calls for number in call]
    if not 1 <= len(calls) <= 40 or len(handed) > 120:
        raise ValueError("no such list of calls is ever handed in")
    if len([call for call in calls if call[0] in (7, 8, 9)]) > 6:
        raise ValueError("no list with so many fewest, least and follow is ever handed in")
    row = answers(handed)
    taken = []
    place = 0
    while place < len(row):
        end = place + 1 + row[place]
        if end > len(row):
            raise ValueError("a count says more than is answered")
        taken.append(row[place + 1:end])
        place = end
    if len(taken) != len(calls):
        raise ValueError("not one answer for each call")
    return taken


def last(*calls):
    """The answer to the last of the calls."""
    return asked(*calls)[-1]
