"""The calls on one new day, handed in as one list of whole numbers, and their answers."""

from daysums.day import NOT_STARTED, Day

# The calls by their numbers; the last one, area, is 9.
START = 0
IN_AT = 1
OUT = 2
CLOSE = 3
PRESENT = 4
THERE = 5
KINDS_THERE = 6
MOST = 7
BUSY = 8

# By a call's number: how many numbers stand behind it.
SIZES = (0, 2, 2, 1, 1, 0, 0, 0, 0, 2)


def answers(calls):
    day = Day()
    told = []
    place = 0
    while place < len(calls):
        call = calls[place]
        behind = place + 1 + SIZES[call]
        answer = answer_to(day, call, calls[place + 1:behind])
        told.append(len(answer))
        told.extend(answer)
        place = behind
    return told


def answer_to(day, call, given):
    if call == START:
        return day.start()
    if not day.started:
        return [NOT_STARTED]
    if call <= CLOSE:
        return note(day, call, given)
    return tell(day, call, given)


def note(day, call, given):
    if call == IN_AT:
        return day.come(given[0], given[1])
    if call == OUT:
        return day.leave(given[0], given[1])
    return day.close(given[0])


def tell(day, call, given):
    if call == PRESENT:
        return day.present(given[0])
    if call == THERE:
        return day.there()
    if call == KINDS_THERE:
        return day.kinds()
    if call == MOST:
        return day.most()
    if call == BUSY:
        return day.busy()
    return day.area(given[0], given[1])
