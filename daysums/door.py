"""The calls on one new day, handed in as one list of whole numbers, and their answers."""

from daysums.day import NOT_STARTED, Day

# The calls by their numbers.
START = 0
IN_AT = 1
OUT = 2
CLOSE = 3
PRESENT = 4
THERE = 5
KINDS_THERE = 6
MOST = 7
BUSY = 8
AREA = 9
TOTAL = 10
MEAN = 11
FIRST = 12
LATEST = 13
AS_IF = 14
KIND = 15
BEFORE = 16
LONGER = 17
UNDO = 18
STATE = 19

# By a call's number: how many numbers stand behind it, a row's numbers not counted.
SIZES = (0, 2, 2, 1, 1, 0, 0, 0, 0, 2, 0, 0, 0, 0, 1, 1, 1, 1, 0, 0)


def answers(calls):
    day = Day()
    told = []
    place = 0
    while place < len(calls):
        behind = end_of_call(calls, place)
        answer = answer_to(day, calls[place], calls[place + 1:behind])
        told.append(len(answer))
        told.extend(answer)
        place = behind
    return told


def end_of_call(calls, place):
    end = place + 1 + SIZES[calls[place]]
    if calls[place] == AS_IF:
        return end + calls[place + 1]
    return end


def answer_to(day, call, given):
    if call == START:
        return day.start()
    if not day.started:
        return [NOT_STARTED]
    if call <= CLOSE or call == UNDO:
        return note(day, call, given)
    if call <= AREA or call == BEFORE or call == STATE:
        return tell_counts(day, call, given)
    return tell_stays(day, call, given)


def note(day, call, given):
    if call == IN_AT:
        return day.come(given[0], given[1])
    if call == OUT:
        return day.leave(given[0], given[1])
    if call == CLOSE:
        return day.close(given[0])
    return day.undo()


def tell_counts(day, call, given):
    if call == PRESENT:
        return day.present(given[0])
    if call == THERE:
        return day.there()
    if call == KINDS_THERE:
        return day.kinds()
    if call == MOST:
        return day.most()
    if call == BUSY:
        return day.busy()
    if call == AREA:
        return day.area(given[0], given[1])
    if call == BEFORE:
        return day.before(given[0])
    return day.state()


def tell_stays(day, call, given):
    if call == TOTAL:
        return day.total()
    if call == MEAN:
        return day.mean()
    if call == FIRST:
        return day.first()
    if call == LATEST:
        return day.latest()
    if call == AS_IF:
        return day.as_if(given[1:])
    if call == KIND:
        return day.kind(given[0])
    return day.longer(given[0])
