"""The calls on one road, handed in and answered as one list of whole numbers each."""

from linelaid.looks import can, cost, earth, line, tried
from linelaid.refusals import NOT_BEGUN
from linelaid.roads import Road

BEGIN = 0
ENDS = 1
GRADE = 2
PRICE = 3
GROUND = 4
FIX = 5
FREE = 6
CAN = 7
COST = 8
LINE = 9
EARTH = 10
TRIED = 11

# By a call's number, those not built yet too: before a begin each of them is read and answers -11.
HOW_MANY_NUMBERS = (0, 2, 1, 2, 2, 2, 1, 0, 0, 0, 0, 0, 0, 0, 1, 1, 2, 1, 0, 0, 1, 0, 0)


def answers(calls):
    """The answers to all calls on a new road, each with how many numbers it has before it."""
    road = Road()
    said = []
    start = 0
    while start < len(calls):
        first = first_argument(calls, start)
        end = call_end(calls, start)
        answer = answer_call(road, calls[start], calls[first:end])
        said.append(len(answer))
        said.extend(answer)
        start = end
    return said


def takes_row(call):
    return call == BEGIN or call == TRIED


def first_argument(calls, start):
    # A row has its length before it, which isn't one of its numbers.
    return start + 2 if takes_row(calls[start]) else start + 1


def call_end(calls, start):
    if takes_row(calls[start]):
        return start + 2 + calls[start + 1]
    return start + 1 + HOW_MANY_NUMBERS[calls[start]]


def answer_call(road, call, given):
    if call == BEGIN:
        return road.begin(given)
    if not road.begun():
        return [NOT_BEGUN]
    if call <= FREE:
        return answer_change(road, call, given)
    return answer_look(road, call, given)


def answer_change(road, call, given):
    if call == ENDS:
        return road.tell_ends(given[0], given[1])
    if call == GRADE:
        return road.change_grade(given[0])
    if call == PRICE:
        return road.change_prices(given[0], given[1])
    if call == GROUND:
        return road.change_ground(given[0], given[1])
    if call == FIX:
        return road.fix(given[0], given[1])
    return road.free(given[0])


def answer_look(road, call, given):
    if call == CAN:
        return can(road)
    if call == COST:
        return cost(road)
    if call == LINE:
        return line(road)
    if call == EARTH:
        return earth(road)
    if call == TRIED:
        return tried(road, given)
    raise NotImplementedError(f"call {call} is not built yet")
