"""The house's calls, asked one behind another on one new object."""

from squarehouse.again import AGAIN_CALLS
from squarehouse.answering import ANSWERING_CALLS
from squarehouse.between import BETWEEN_CALLS
from squarehouse.differences import DIFFERENCES_CALLS
from squarehouse.left import LEFT_CALLS
from squarehouse.own import OWN_CALLS
from squarehouse.powers import POWERS_CALLS
from squarehouse.refusals import NOT_BEGUN
from squarehouse.state import House

BEGIN = 0
UNDO = 2


def entry_of(number):
    if number in LEFT_CALLS:
        return LEFT_CALLS[number]
    if number in AGAIN_CALLS:
        return AGAIN_CALLS[number]
    if number in BETWEEN_CALLS:
        return BETWEEN_CALLS[number]
    if number in ANSWERING_CALLS:
        return ANSWERING_CALLS[number]
    if number in DIFFERENCES_CALLS:
        return DIFFERENCES_CALLS[number]
    if number in POWERS_CALLS:
        return POWERS_CALLS[number]
    return OWN_CALLS[number]


def act_with(act, house, given):
    if len(given) == 0:
        return act(house)
    if len(given) == 1:
        return act(house, given[0])
    if len(given) == 2:
        return act(house, given[0], given[1])
    if len(given) == 3:
        return act(house, given[0], given[1], given[2])
    return act(house, given[0], given[1], given[2], given[3])


def answer_of(house, number, given):
    if number != BEGIN and house.prime == 0:
        return [NOT_BEGUN]
    act = entry_of(number)[0]
    # These two set what can be taken back themselves, and aren't changes.
    if number == BEGIN or number == UNDO:
        return act_with(act, house, given)
    old = house.picture()
    answer = act_with(act, house, given)
    if house.picture() != old:
        house.remember(old)
    return answer


def answers(calls):
    house = House()
    told = []
    at = 0
    while at < len(calls):
        number = calls[at]
        end = at + 1 + entry_of(number)[1]
        answer = answer_of(house, number, calls[at + 1:end])
        told.append(len(answer))
        told.extend(answer)
        at = end
    return told
