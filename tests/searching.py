"""A plain search through all rows of steps, written apart from the program.

The tray is a tuple, by place the dish that stands there; a wish is a pair of its guest and its dish.
"""

import itertools


def turned_on(tray, way):
    return tray[-1:] + tray[:-1] if way == 0 else tray[1:] + tray[:1]


class Plain:
    """A table; behind holds pairs (one, other): the one has to be behind the other."""

    def __init__(self, n):
        self.tray = tuple(range(n))
        self.wishes = []
        self.behind = set()
        self.had = frozenset()

    def wish(self, guest, dish):
        self.wishes.append((guest, dish))
        self.had = self.served(self.tray, self.had)

    def put(self, one, other):
        self.behind.add((one, other))

    def turn(self, way):
        self.tray, self.had = self.moved(self.tray, self.had, way)

    def can_have(self, one, had):
        return all(other in had for first, other in self.behind if first == one)

    def served(self, tray, had):
        more = {
            one for one, (guest, dish) in enumerate(self.wishes)
            if one not in had and tray[guest] == dish and self.can_have(one, had)
        }
        return self.served(tray, had | more) if more else had

    def moved(self, tray, had, way):
        tray = turned_on(tray, way)
        return tray, self.served(tray, had)

    def had_after(self, row):
        """What has been had ahead of the first step, and behind each."""
        tray, had = self.tray, self.had
        told = [had]
        for way in row:
            tray, had = self.moved(tray, had, way)
            told.append(had)
        return told

    def waiting(self, row):
        return sum(len(self.wishes) - len(had) for had in self.had_after(row)[:-1])

    def stands(self):
        left = [one for one in range(len(self.wishes)) if one not in self.had]
        return [self.tray.index(0), len(self.wishes), len(left), *left]

    def open_wishes(self):
        free = [one for one in range(len(self.wishes)) if one not in self.had and self.can_have(one, self.had)]
        return [len(free), *free]

    def soon(self, one):
        """Turned both ways at once, till the dish is there."""
        if one in self.had:
            return [-3]
        guest, dish = self.wishes[one]
        right = left = self.tray
        for steps in itertools.count():
            if dish in (right[guest], left[guest]):
                return [steps]
            right, left = turned_on(right, 0), turned_on(left, 1)

    def fewest(self):
        for length in itertools.count():
            # All rows of this length, in order.
            rows = itertools.product((0, 1), repeat=length)
            plans = [row for row in rows if len(self.had_after(row)[-1]) == len(self.wishes)]
            if plans:
                return [length, len(plans), *plans[0]]

    def least(self):
        """Each row is gone on with till it is a plan, or has waited as much as the best one found."""
        best = self.waiting(self.fewest()[2:])
        rows = [(0, self.tray, self.had)]
        while rows:
            waited, tray, had = rows.pop()
            if waited >= best:
                continue
            left = len(self.wishes) - len(had)
            if left == 0:
                best = waited
            else:
                rows += [(waited + left, *self.moved(tray, had, way)) for way in (0, 1)]
        return [best]

    def follow(self, n):
        row = self.fewest()[2:][:n]
        for way in row:
            self.turn(way)
        return [len(row), len(self.wishes) - len(self.had)]
