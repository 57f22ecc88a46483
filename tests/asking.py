"""The calls as lists of their numbers, and what is answered to several of them on one day."""

from daysums.door import answers

LARGEST = 4294967295

START = [0]
THERE = [5]
KINDS = [6]
MOST = [7]
BUSY = [8]
TOTAL = [10]
MEAN = [11]
FIRST = [12]
LATEST = [13]
UNDO = [18]
STATE = [19]


def come(minute, kind):
    return [1, minute, kind]


def leave(minute, kind):
    return [2, minute, kind]


def close(minute):
    return [3, minute]


def present(minute):
    return [4, minute]


def area(since, until):
    return [9, since, until]


def as_if(*places):
    return [14, len(places)] + list(places)


def kind(asked):
    return [15, asked]


def before(minute):
    return [16, minute]


def longer(minutes):
    return [17, minutes]


def one_list(calls):
    return [number for call in calls for number in call]


def ask(*calls):
    """The answers, one list a call, with the counts before them checked and taken off."""
    numbers = answers(one_list(calls))
    told = []
    while numbers:
        count = numbers[0]
        assert 0 < count < len(numbers), numbers
        told.append(numbers[1:1 + count])
        numbers = numbers[1 + count:]
    assert len(told) == len(calls), told
    return told


def last(*calls):
    return ask(*calls)[-1]


def behind(day, *calls):
    """The answers to the calls alone, without those of the day they stand behind."""
    return ask(*day, *calls)[len(day):]


# Two of kind 0 and one of kind 2 come, one of kind 0 goes, one of kind 3 comes.
MORNING = [START, come(10, 0), come(10, 2), come(12, 0), leave(15, 0), come(20, 3)]
