import itertools
import random
import time
import unittest

from tests.asking import (
    FEWEST, LEAST, LEFT, OPEN_WISHES, RIGHT, STANDS, asked, behind, follow, soon, step, table, wish,
)
from tests.searching import Plain


def made(n, first, wishes, pairs, then):
    """The calls that lay such a table, and the same table made plainly; what would be refused is left out."""
    plain = Plain(n)
    calls = [table(n)]
    for way in first:
        plain.turn(way)
        calls.append(step(way))
    for guest, dish in wishes:
        plain.wish(guest, dish)
        calls.append(wish(guest, dish))
    for one, other in pairs:
        if one not in plain.had:
            plain.put(one, other)
            calls.append(behind(one, other))
    for way in then:
        plain.turn(way)
        calls.append(step(way))
    return calls, plain


def by_chance(source, n, most_wishes, most_pairs):
    """A table drawn by the source: of two wishes only the one further on in a shuffled row is behind the other."""
    seats = list(itertools.product(range(n), repeat=2))
    wishes = source.sample(seats, min(len(seats), source.randint(1, most_wishes)))
    row = source.sample(range(len(wishes)), len(wishes))
    pairs = [(one, other) for k, one in enumerate(row) for other in row[:k]]
    pairs = source.sample(pairs, min(len(pairs), source.randint(0, most_pairs)))
    first = [source.randint(0, 1) for _ in range(source.randint(0, 2))]
    then = [source.randint(0, 1) for _ in range(source.randint(0, 2))]
    return made(n, first, wishes, pairs, then)


class SmallTablesTest(unittest.TestCase):
    def hold(self, calls, plain, n):
        """All that is told is as the plain search tells it, before n steps are followed and behind it."""
        wishes = range(len(plain.wishes))
        told = asked(
            *calls, STANDS, OPEN_WISHES, *[soon(one) for one in wishes], FEWEST, LEAST, STANDS,
            follow(n), STANDS, OPEN_WISHES, *[soon(one) for one in wishes], FEWEST, LEAST,
        )[len(calls):]
        before = [plain.stands(), plain.open_wishes(), *map(plain.soon, wishes), plain.fewest(), plain.least()]
        stood = plain.stands()
        followed = plain.follow(n)
        after = [plain.stands(), plain.open_wishes(), *map(plain.soon, wishes), plain.fewest(), plain.least()]
        self.assertEqual(told, before + [stood, followed] + after, calls)

    def test_one_wish_at_every_table(self):
        for n in range(2, 9):
            for guest, dish in itertools.product(range(n), repeat=2):
                self.hold(*made(n, (), [(guest, dish)], (), ()), 1)

    def test_every_two_wishes(self):
        for n in (2, 3, 4):
            seats = itertools.product(range(n), repeat=2)
            for wishes in itertools.permutations(seats, 2):
                self.hold(*made(n, (), wishes, (), ()), 1)
                self.hold(*made(n, (), wishes, [(0, 1)], ()), 2)

    def test_every_turn_of_three_wishes_in_a_row(self):
        # Turned back by a step when all is told, so that a wish may have its dish before it.
        for n in (3, 4, 5):
            for turns in itertools.product(range(n), repeat=3):
                wishes = [((dish + turn) % n, dish) for dish, turn in enumerate(turns)]
                self.hold(*made(n, (0,), wishes, [(1, 0), (2, 1)], (1,)), 3)

    def test_drawn_tables_of_few_places(self):
        source = random.Random(1)
        for _ in range(300):
            self.hold(*by_chance(source, source.randint(2, 5), 4, 4), source.randint(0, 6))

    def test_drawn_tables_of_many_places(self):
        source = random.Random(2)
        for _ in range(60):
            self.hold(*by_chance(source, source.randint(6, 8), 3, 1), source.randint(0, 6))

    def test_drawn_tables_of_six_wishes(self):
        source = random.Random(3)
        for _ in range(20):
            wishes = source.sample(list(itertools.product(range(8), repeat=2)), 6)
            self.hold(*made(8, (), wishes, (), ()), source.randint(0, 6))


class WholeTest(unittest.TestCase):
    def test_what_only_tells_changes_nothing(self):
        source = random.Random(4)
        telling = [STANDS, OPEN_WISHES, soon(0), FEWEST, soon(5), LEAST]
        for _ in range(100):
            calls, _ = by_chance(source, source.randint(2, 8), 5, 4)
            going_on = [wish(0, 1), behind(0, 1), RIGHT, STANDS, RIGHT, LEFT, LEFT, LEFT, STANDS]
            with_telling = asked(*calls, *telling, *going_on)
            self.assertEqual(with_telling[-len(going_on):], asked(*calls, *going_on)[-len(going_on):], calls)

    def test_six_searches_at_the_largest_table_are_soon_done(self):
        six = [wish(4, 0), wish(0, 0), wish(5, 1), wish(1, 1), wish(6, 2), wish(2, 2)]
        chain = [behind(k + 1, k) for k in range(5)]
        # Free of order, or nearly, far more different things may be fulfilled on the way.
        apart = [wish(guest, 0) for guest in (2, 3, 4, 5, 6, 7)]
        pairs = [behind(0, 5), behind(1, 4), behind(2, 3)]
        searches = [FEWEST, LEAST, FEWEST, LEAST, follow(1), FEWEST]
        for calls in ([RIGHT, *six, *chain, LEFT], six, apart, [*apart, *pairs]):
            with self.subTest(calls=calls):
                begun = time.perf_counter()
                asked(table(8), *calls, *searches)
                self.assertLess(time.perf_counter() - begun, 3)


if __name__ == "__main__":
    unittest.main()
