"""Answers a row of calls about one table."""

from turningtray.plans import fewest_steps, least_waiting
from turningtray.wishes import FEWEST_PLACES, MOST_PLACES, MOST_WISHES, TO_THE_LEFT, TO_THE_RIGHT, Table

TABLE = 0
WISH = 1
BEHIND = 2
STEP = 3
STANDS = 4
OPEN_WISHES = 5
SOON = 6
FEWEST = 7
LEAST = 8

# By a call's number: how many numbers stand behind it.
HOW_MANY_GIVEN = (1, 2, 2, 1, 0, 0, 1, 0, 0, 1)

MOST_FOLLOWED = 100

DONE = 0

OUT_OF_RANGE = -1
SAME_WISH = -1
NO_SUCH_WISH = -2
IS_FULFILLED = -3
THERE_ALREADY = -4
TOO_MANY = -5
IN_A_CIRCLE = -6


def answer_table(table, places):
    """Lay the table anew."""
    if places < FEWEST_PLACES or places > MOST_PLACES:
        return [OUT_OF_RANGE]
    table.lay(places)
    return [DONE]


def answer_wish(table, guest, dish):
    """Take a guest's wish for a dish."""
    if guest >= table.places or dish >= table.places:
        return [OUT_OF_RANGE]
    if len(table.fulfilled) >= MOST_WISHES:
        return [TOO_MANY]
    if table.is_wanted(guest, dish):
        return [THERE_ALREADY]
    wish = table.add_wish(guest, dish)
    return [wish, 1 if table.fulfilled[wish] else 0]


def answer_behind(table, one, other):
    """Put one wish behind another."""
    if not table.has_wish(one) or not table.has_wish(other):
        return [NO_SUCH_WISH]
    if one == other:
        return [SAME_WISH]
    if table.fulfilled[one]:
        return [IS_FULFILLED]
    # Only what was told straight counts here: by others between is said of the circle alone.
    if other in table.ahead[one]:
        return [THERE_ALREADY]
    if table.is_behind(other, one):
        return [IN_A_CIRCLE]
    table.put_behind(one, other)
    return [DONE]


def answer_step(table, way):
    """Turn the tray by one step."""
    if way != TO_THE_RIGHT and way != TO_THE_LEFT:
        return [OUT_OF_RANGE]
    before = table.unfulfilled()
    table.make_step(way)
    fulfilled = [wish for wish in before if table.fulfilled[wish]]
    return [table.turned, len(fulfilled)] + fulfilled


def answer_stands(table):
    """Tell how things stand."""
    unfulfilled = table.unfulfilled()
    return [table.turned, len(table.fulfilled), len(unfulfilled)] + unfulfilled


def answer_open_wishes(table):
    """Tell which wishes lack nothing but their dish."""
    free = [wish for wish in table.unfulfilled() if table.is_free(wish, table.fulfilled)]
    return [len(free)] + free


def answer_soon(table, wish):
    """Tell how near a wish's dish is to its guest."""
    if not table.has_wish(wish):
        return [NO_SUCH_WISH]
    if table.fulfilled[wish]:
        return [IS_FULFILLED]
    return [table.steps_till_served(wish)]


def answer_fewest(table):
    """Tell the fewest steps of a plan, how many plans have so few, and the first of these."""
    plans = fewest_steps(table)
    return [len(plans.first), plans.many] + plans.first


def answer_least(table):
    """Tell the least waiting."""
    return [least_waiting(table)]


def answer_follow(table, most):
    """Make the first steps of the plan that fewest tells."""
    if most > MOST_FOLLOWED:
        return [OUT_OF_RANGE]
    steps = fewest_steps(table).first[:most]
    for way in steps:
        table.make_step(way)
    return [len(steps), len(table.unfulfilled())]


def answer(table, number, given):
    """Answer the call of this number."""
    if number == TABLE:
        return answer_table(table, given[0])
    if number == WISH:
        return answer_wish(table, given[0], given[1])
    if number == BEHIND:
        return answer_behind(table, given[0], given[1])
    if number == STEP:
        return answer_step(table, given[0])
    if number == STANDS:
        return answer_stands(table)
    if number == OPEN_WISHES:
        return answer_open_wishes(table)
    if number == SOON:
        return answer_soon(table, given[0])
    if number == FEWEST:
        return answer_fewest(table)
    if number == LEAST:
        return answer_least(table)
    return answer_follow(table, given[0])


def answers(calls):
    """For each call in order: how many numbers are answered, then these."""
    table = Table()
    told = []
    place = 0
    while place < len(calls):
        number = calls[place]
        behind = place + 1 + HOW_MANY_GIVEN[number]
        answered = answer(table, number, calls[place + 1:behind])
        told.append(len(answered))
        told.extend(answered)
        place = behind
    return told
