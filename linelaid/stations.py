"""The calls on one road, handed in and answered as one list of whole numbers each."""

from linelaid.bounds import between, leastgrade, why
from linelaid.looks import can, cost, earth, flat, line, steep, tried
from linelaid.records import profile, state, station
from linelaid.refusals import NOT_BEGUN
from linelaid.roads import Road
from linelaid.what_if import ifgrade, through, worth

BEGIN = 0
ENDS = 1
GRADE = 2
PRICE = 3
GROUND = 4
FIX = 5
FREE = 6
CAN = 7
COST = 8
LINE = 9
EARTH = 10
TRIED = 11
WHY = 12
LEASTGRADE = 13
IFGRADE = 14
BETWEEN = 15
THROUGH = 16
WORTH = 17
STEEP = 18
FLAT = 19
STATION = 20
PROFILE = 21
STATE = 22

# By a call's number; a row isn't counted, as its length is handed in.
HOW_MANY_NUMBERS = (0, 2, 1, 2, 2, 2, 1, 0, 0, 0, 0, 0, 0, 0, 1, 1, 2, 1, 0, 0, 1, 0, 0)


def answers(calls):
    """The answers to all calls on a new road, each with how many numbers it has before it."""
    road = Road()
    said = []
    start = 0
    while start < len(calls):
        first = first_argument(calls, start)
        end = call_end(calls, start)
        answer = answer_call(road, calls[start], calls[first:end])
        said.append(len(answer))
        said.extend(answer)
        start = end
    return said


def takes_row(call):
    return call == BEGIN or call == TRIED


def first_argument(calls, start):
    # A row has its length before it, which isn't one of its numbers.
    return start + 2 if takes_row(calls[start]) else start + 1


def call_end(calls, start):
    if takes_row(calls[start]):
        return start + 2 + calls[start + 1]
    return start + 1 + HOW_MANY_NUMBERS[calls[start]]


def answer_call(road, call, given):
    if call == BEGIN:
        return road.begin(given)
    if not road.begun():
        return [NOT_BEGUN]
    if call <= FREE:
        return answer_change(road, call, given)
    return answer_look(road, call, given)


def answer_change(road, call, given):
    if call == ENDS:
        return road.tell_ends(given[0], given[1])
    if call == GRADE:
        return road.change_grade(given[0])
    if call == PRICE:
        return road.change_prices(given[0], given[1])
    if call == GROUND:
        return road.change_ground(given[0], given[1])
    if call == FIX:
        return road.fix(given[0], given[1])
    return road.free(given[0])


def answer_look(road, call, given):
    if call == TRIED:
        return tried(road, given)
    if call == IFGRADE:
        return ifgrade(road, given[0])
    if call == BETWEEN:
        return between(road, given[0])
    if call == THROUGH:
        return through(road, given[0], given[1])
    if call == WORTH:
        return worth(road, given[0])
    if call == STATION:
        return station(road, given[0])
    return answer_bare_look(road, call)


def answer_bare_look(road, call):
    """The answer to a look that is handed in as its number alone."""
    if call == CAN:
        return can(road)
    if call == COST:
        return cost(road)
    if call == LINE:
        return line(road)
    if call == EARTH:
        return earth(road)
    if call == WHY:
        return why(road)
    if call == LEASTGRADE:
        return leastgrade(road)
    if call == STEEP:
        return steep(road)
    if call == FLAT:
        return flat(road)
    if call == PROFILE:
        return profile(road)
    return state(road)
