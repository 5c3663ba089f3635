"""Answers a row of calls about one table."""

from turningtray.wishes import FEWEST_PLACES, MOST_PLACES, MOST_WISHES, TO_THE_LEFT, TO_THE_RIGHT, Table

TABLE = 0
WISH = 1
BEHIND = 2
STEP = 3

# By a call's number: how many numbers stand behind it.
HOW_MANY_GIVEN = (1, 2, 2, 1, 0)

DONE = 0

OUT_OF_RANGE = -1
SAME_WISH = -1
NO_SUCH_WISH = -2
IS_FULFILLED = -3
THERE_ALREADY = -4
TOO_MANY = -5
IN_A_CIRCLE = -6


def answer_table(table, places):
    """Lay the table anew."""
    if places < FEWEST_PLACES or places > MOST_PLACES:
        return [OUT_OF_RANGE]
    table.lay(places)
    return [DONE]


def answer_wish(table, guest, dish):
    """Take a guest's wish for a dish."""
    if guest >= table.places or dish >= table.places:
        return [OUT_OF_RANGE]
    if len(table.fulfilled) >= MOST_WISHES:
        return [TOO_MANY]
    if table.is_wanted(guest, dish):
        return [THERE_ALREADY]
    wish = table.add_wish(guest, dish)
    return [wish, 1 if table.fulfilled[wish] else 0]


def answer_behind(table, one, other):
    """Put one wish behind another."""
    if not table.has_wish(one) or not table.has_wish(other):
        return [NO_SUCH_WISH]
    if one == other:
        return [SAME_WISH]
    if table.fulfilled[one]:
        return [IS_FULFILLED]
    # Only what was told straight counts here: by others between is said of the circle alone.
    if other in table.ahead[one]:
        return [THERE_ALREADY]
    if table.is_behind(other, one):
        return [IN_A_CIRCLE]
    table.put_behind(one, other)
    return [DONE]


def answer_step(table, way):
    """Turn the tray by one step."""
    if way != TO_THE_RIGHT and way != TO_THE_LEFT:
        return [OUT_OF_RANGE]
    before = table.unfulfilled()
    table.make_step(way)
    fulfilled = [wish for wish in before if table.fulfilled[wish]]
    return [table.turned, len(fulfilled)] + fulfilled


def answer_stands(table):
    """Tell how things stand."""
    unfulfilled = table.unfulfilled()
    return [table.turned, len(table.fulfilled), len(unfulfilled)] + unfulfilled


def answer(table, number, given):
    """Answer the call of this number."""
    if number == TABLE:
        return answer_table(table, given[0])
    if number == WISH:
        return answer_wish(table, given[0], given[1])
    if number == BEHIND:
        return answer_behind(table, given[0], given[1])
    if number == STEP:
        return answer_step(table, given[0])
    return answer_stands(table)


def answers(calls):
    """For each call in order: how many numbers are answered, then these."""
    table = Table()
    told = []
    place = 0
    while place < len(calls):
        number = calls[place]
        behind = place + 1 + HOW_MANY_GIVEN[number]
        answered = answer(table, number, calls[place + 1:behind])
        told.append(len(answered))
        told.extend(answered)
        place = behind
    return told
