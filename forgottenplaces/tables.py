"""The interface: a list of calls on one new object, and what is answered to each."""

from forgottenplaces.places import NOT_BEGUN, Places

BEGIN = 0
TABLE = 1
CELL = 2
DROP = 3
SHOW = 4
WORD = 5
CHANCES_FROM = 6
SPREAD = 7
FAR = 8
DELTA = 9
WORST = 10
MOST = 11
MIXES = 12
STEPS = 13
KEPT = 14
BEGUN = 15
STAYS = 16
BACK = 17

# Of each call, by its number: how many whole numbers it has, then how many rows.
FORMS = (
    (1, 0), (0, 1), (4, 0), (1, 0), (1, 0), (0, 1), (1, 1), (0, 2), (2, 1), (0, 1),
    (0, 1), (1, 0), (0, 1), (0, 0), (0, 0), (1, 0), (1, 1), (0, 0), (0, 0),
)


def rows_at(calls, at, how_many):
    rows = []
    while len(rows) < how_many:
        end = at + 1 + calls[at]
        rows.append(calls[at + 1:end])
        at = end
    return rows


def change_answer(places, number, wholes, rows):
    if number == TABLE:
        return places.table(rows[0])
    if number == CELL:
        return places.cell(wholes[0], wholes[1], wholes[2], wholes[3])
    return places.drop(wholes[0])


def look_answer(places, number, wholes, rows):
    if number == SHOW:
        return places.show(wholes[0])
    if number == WORD:
        return places.word(rows[0])
    if number == CHANCES_FROM:
        return places.chances_from(wholes[0], rows[0])
    return places.spread(rows[0], rows[1])


def apart_answer(places, number, wholes, rows):
    if number == FAR:
        return places.far(wholes[0], wholes[1], rows[0])
    if number == DELTA:
        return places.delta(rows[0])
    if number == WORST:
        return places.worst(rows[0])
    if number == MOST:
        return places.most(wholes[0])
    if number == MIXES:
        return places.mixes(rows[0])
    if number == STEPS:
        return places.steps()
    if number == KEPT:
        return places.kept()
    return places.begun(wholes[0])


def last_calls_answer(places, number, wholes, rows):
    if number == STAYS:
        return places.stays(wholes[0], rows[0])
    if number == BACK:
        return places.back()
    return places.state()


def answer_to(places, number, wholes, rows):
    if number == BEGIN:
        return places.begin(wholes[0])
    if not places.is_begun():
        return [NOT_BEGUN]
    if number <= DROP:
        return change_answer(places, number, wholes, rows)
    if number <= SPREAD:
        return look_answer(places, number, wholes, rows)
    if number <= BEGUN:
        return apart_answer(places, number, wholes, rows)
    return last_calls_answer(places, number, wholes, rows)


def answers(calls):
    """For each call, in order: how many numbers are answered, and these."""
    places = Places()
    told = []
    at = 0
    while at < len(calls):
        number = calls[at]
        rows_begin = at + 1 + FORMS[number][0]
        wholes = calls[at + 1:rows_begin]
        rows = rows_at(calls, rows_begin, FORMS[number][1])
        at = rows_begin + sum([1 + len(row) for row in rows])
        answer = answer_to(places, number, wholes, rows)
        told.append(len(answer))
        told.extend(answer)
    return told
