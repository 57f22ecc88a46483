"""How long each stayed, by who is taken to have gone: from the minutes of those who came and of those who went.

Both lists are in their order, so neither ever falls.
"""


def first_goes_first(came, gone):
    return [went - entered for entered, went in zip(came, gone)]


# By minutes, not by the order of the notes: who came in the very minute
# in which one goes has come by it, though it was noted behind that going.
def last_goes_first(came, gone):
    stays = []
    waiting = []
    entered = 0
    for went in gone:
        while entered < len(came) and came[entered] <= went:
            waiting.append(came[entered])
            entered += 1
        stays.append(went - waiting.pop())
    return stays


def can_go_so(came, gone, places):
    if len(places) != len(gone) or len(set(places)) != len(places):
        return False
    for place, went in zip(places, gone):
        if place >= len(came) or came[place] > went:
            return False
    return True


def gone_so(came, gone, places):
    return first_goes_first([came[place] for place in places], gone)


def told_of(stays):
    return [sum(stays), max(stays, default=0), sum([stay * stay for stay in stays])]


def common_divisor(one, other):
    while other > 0:
        rest = one % other
        one = other
        other = rest
    return one


def shortened(upper, lower):
    divisor = common_divisor(upper, lower)
    return [upper // divisor, lower // divisor]
