"""A table, its tray, and the wishes of those who sit round it."""

FEWEST_PLACES = 2
MOST_PLACES = 8
MOST_WISHES = 6

TO_THE_RIGHT = 0
TO_THE_LEFT = 1


class Table:
    """How things stand at one table; a wish is known by its number."""

    def __init__(self):
        self.lay(FEWEST_PLACES)

    def lay(self, places):
        """Begin anew with so many places."""
        self.places = places
        self.turned = 0
        self.guests = []
        self.dishes = []
        self.ahead = []
        self.fulfilled = []

    def has_wish(self, wish):
        """Whether there is a wish of this number."""
        return wish < len(self.fulfilled)

    def is_wanted(self, guest, dish):
        """Whether the guest has wished for the dish, fulfilled or not."""
        return any([self.guests[wish] == guest and self.dishes[wish] == dish for wish in range(len(self.guests))])

    def unfulfilled(self):
        """The wishes that are not fulfilled, rising."""
        return [wish for wish in range(len(self.fulfilled)) if not self.fulfilled[wish]]

    def add_wish(self, guest, dish):
        """Take a new wish, and give back its number."""
        self.guests.append(guest)
        self.dishes.append(dish)
        self.ahead.append([])
        self.fulfilled.append(False)
        self.fulfilled = self.settled(self.turned, self.fulfilled)
        return len(self.fulfilled) - 1

    def put_behind(self, one, other):
        """From now on the one has to be behind the other."""
        self.ahead[one].append(other)

    def is_behind(self, one, other):
        """Whether the one has to be behind the other, straight or by others between."""
        # This ends, since no wish is ever put behind one that has to be behind it.
        return any([wish == other or self.is_behind(wish, other) for wish in self.ahead[one]])

    def turn_after(self, turned, way):
        """By how much the tray is turned after a step from there."""
        if way == TO_THE_RIGHT:
            return (turned + 1) % self.places
        return (turned - 1) % self.places

    def make_step(self, way):
        """Turn the tray by a step, and let it stand."""
        self.turned = self.turn_after(self.turned, way)
        self.fulfilled = self.settled(self.turned, self.fulfilled)

    def is_served(self, wish, turned):
        """Whether the dish stands before the guest when the tray is turned so."""
        return (self.dishes[wish] + turned) % self.places == self.guests[wish]

    def steps_till_served(self, wish):
        """In how few steps the dish is before the guest, whatever the wish has to be behind."""
        to_the_right = (self.guests[wish] - self.dishes[wish] - self.turned) % self.places
        return min(to_the_right, self.places - to_the_right)

    def is_free(self, wish, fulfilled):
        """Whether all are fulfilled behind which the wish has to be."""
        return all([fulfilled[other] for other in self.ahead[wish]])

    def settled(self, turned, fulfilled):
        """What is fulfilled when the tray stands turned so, if this much was before; nothing is changed."""
        now = list(fulfilled)
        # A wish may free another one of a lower number, so one walk is not enough;
        # each walk but the last fulfils at least one, so as many as there are wishes are.
        for walk in range(len(now)):
            for wish in range(len(now)):
                if self.is_served(wish, turned) and self.is_free(wish, now):
                    now[wish] = True
        return now
