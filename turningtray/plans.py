"""Searches for plans; the table itself is only read.

A state is a tuple: by how much the tray is turned, and a tuple that says of each wish whether it is fulfilled.
"""

from turningtray.wishes import TO_THE_LEFT, TO_THE_RIGHT


class Rows:
    """Rows of steps, all of one length: how many there are, and the first of them in order."""

    def __init__(self, many, first):
        self.many = many
        self.first = first


def state_now(table):
    """The state from which plans begin."""
    return (table.turned, tuple(table.fulfilled))


def state_after(table, state, way):
    """The state after a step."""
    turned = table.turn_after(state[0], way)
    return (turned, tuple(table.settled(turned, state[1])))


def is_end(state):
    """Whether all wishes are fulfilled."""
    return all(state[1])


def how_many_wait(state):
    """How many wishes are not fulfilled."""
    return state[1].count(False)


def together(several):
    """Several Rows of one length as one."""
    return Rows(sum([rows.many for rows in several]), min([rows.first for rows in several]))


def ways_on(table, layer, seen):
    """For each state not seen yet that is a step on from the layer: what leads there, as a list of Rows."""
    found = {}
    for state, rows in layer.items():
        for way in (TO_THE_RIGHT, TO_THE_LEFT):
            reached = state_after(table, state, way)
            if reached not in seen:
                several = found.setdefault(reached, [])
                several.append(Rows(rows.many, rows.first + [way]))
    return found


def layer_on(table, layer, seen):
    """The states not seen yet that are a step on from the layer, each with the Rows that lead there."""
    on = {}
    for state, several in ways_on(table, layer, seen).items():
        on[state] = together(several)
    return on


def fewest_steps(table):
    """The plans with the fewest steps."""
    layer = {state_now(table): Rows(1, [])}
    seen = {}
    # This ends, since some wish that is not fulfilled is always free, and the tray can be turned to serve it.
    while True:
        plans = [rows for state, rows in layer.items() if is_end(state)]
        if len(plans) > 0:
            return together(plans)
        # A row that comes back to a state is longer than one that was there before.
        for state in layer:
            seen[state] = True
        layer = layer_on(table, layer, seen)


def least_waiting(table):
    """How much all wait together, by the plan by which that is least."""
    by_waiting = {0: [state_now(table)]}
    seen = {}
    waited = 0
    # The states come as their waiting rises, so the first end that is met is one with the least.
    while True:
        states = by_waiting.pop(waited, [])
        if any([is_end(state) for state in states]):
            return waited
        for state in states:
            if state not in seen:
                seen[state] = True
                later = by_waiting.setdefault(waited + how_many_wait(state), [])
                later.append(state_after(table, state, TO_THE_RIGHT))
                later.append(state_after(table, state, TO_THE_LEFT))
        waited = waited + 1
