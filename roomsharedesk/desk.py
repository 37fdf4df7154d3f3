"""The desk: a list of calls on one journey, and what they answer."""

from roomsharedesk.journey import Journey

BEGIN = 0
ROOM = 1
BEDS = 2
WISH = 3
BAR = 4
PIN = 5
FILL = 6
MOVE = 7
SWAP = 8
WHO = 9
WEIGH = 10

# How many numbers stand behind each call's own number, from begin (0) to state (11).
NUMBERS_BEHIND = (1, 1, 2, 3, 3, 2, 0, 2, 2, 1, 0, 0)


def answer(journey, call, told):
    """The numbers that one call answers, told the numbers behind it."""
    if call == BEGIN:
        return [journey.begin(told[0])]
    if call == ROOM:
        return [journey.room(told[0])]
    if call == BEDS:
        return [journey.beds(told[0], told[1])]
    if call == WISH:
        return [journey.wish(told[0], told[1], told[2])]
    if call == BAR:
        return [journey.bar(told[0], told[1], told[2])]
    if call == PIN:
        return [journey.pin(told[0], told[1])]
    if call == FILL:
        return journey.fill()
    if call == MOVE:
        return [journey.move(told[0], told[1])]
    if call == SWAP:
        return [journey.swap(told[0], told[1])]
    if call == WHO:
        return journey.who(told[0])
    if call == WEIGH:
        return journey.weigh()
    return journey.state()


def answers(calls):
    """For each call in the list how many numbers it answers, then these."""
    journey = Journey()
    given = []
    at = 0
    while at < len(calls):
        call = calls[at]
        behind = at + 1 + NUMBERS_BEHIND[call]
        numbers = answer(journey, call, calls[at + 1:behind])
        given.append(len(numbers))
        given.extend(numbers)
        at = behind
    return given
