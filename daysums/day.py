"""One day at a door: who came and who went, by minute and kind, and the sums of it.

Every call is answered by a list: a refusal alone, or all the numbers of the answer.
"""

from daysums.stays import can_go_so, first_goes_first, gone_so, last_goes_first, shortened, told_of

LAST_MINUTE = 500
KINDS = 4
MOST_WHO_COME = 30

NOT_STARTED = -11
WRONG_NUMBER = -22
ALL_HAVE_COME = -28
NONE_OF_THE_KIND = -16
SOMEBODY_IS_THERE = -16
NOBODY = -6


class Day:
    def __init__(self):
        self.started = False
        # Pairs of minute and kind, in the order in which they came and went.
        self.came = []
        self.gone = []

    # Looked up in the notes, not kept beside them: an undo may move it back.
    def last_noted(self):
        return max(self.came_minutes() + self.gone_minutes(), default=0)

    def came_minutes(self):
        return [minute for minute, kind in self.came]

    def gone_minutes(self):
        return [minute for minute, kind in self.gone]

    def is_wrong_minute(self, minute):
        return minute < self.last_noted() or minute > LAST_MINUTE

    def is_wrong_note(self, minute, kind):
        return self.is_wrong_minute(minute) or kind >= KINDS

    def there_now(self):
        return len(self.came) - len(self.gone)

    def all_stays(self):
        return sum(self.gone_minutes()) - sum(self.came_minutes())

    def there_by_kind(self):
        counts = [0] * KINDS
        for minute, kind in self.came:
            counts[kind] += 1
        for minute, kind in self.gone:
            counts[kind] -= 1
        return counts

    # A whole minute is added up before its count is taken, so that who comes
    # and goes in one minute isn't there by it.
    def there_by_minute(self):
        changes = [0] * (LAST_MINUTE + 1)
        for minute in self.came_minutes():
            changes[minute] += 1
        for minute in self.gone_minutes():
            changes[minute] -= 1
        counts = []
        count = 0
        for change in changes:
            count += change
            counts.append(count)
        return counts

    def start(self):
        self.started = True
        self.came = []
        self.gone = []
        return [0]

    def come(self, minute, kind):
        if self.is_wrong_note(minute, kind):
            return [WRONG_NUMBER]
        if len(self.came) >= MOST_WHO_COME:
            return [ALL_HAVE_COME]
        self.came.append((minute, kind))
        return [self.there_now()]

    def leave(self, minute, kind):
        if self.is_wrong_note(minute, kind):
            return [WRONG_NUMBER]
        if self.there_by_kind()[kind] == 0:
            return [NONE_OF_THE_KIND]
        self.gone.append((minute, kind))
        return [self.there_now()]

    def close(self, minute):
        if self.is_wrong_minute(minute):
            return [WRONG_NUMBER]
        leaving = self.there_by_kind()
        if sum(leaving) == 0:
            return [NOBODY]
        for kind in range(KINDS):
            self.gone.extend([(minute, kind)] * leaving[kind])
        return [sum(leaving)]

    def undo(self):
        if len(self.gone) == 0:
            return [NOBODY]
        self.gone.pop()
        return [len(self.gone)]

    def present(self, minute):
        if minute > LAST_MINUTE:
            return [WRONG_NUMBER]
        return [self.there_by_minute()[minute]]

    def there(self):
        return [self.there_now()]

    def kinds(self):
        return [KINDS] + self.there_by_kind()

    def most(self):
        counts = self.there_by_minute()
        top = max(counts)
        return [top, counts.index(top)]

    def busy(self):
        counts = self.there_by_minute()[:self.last_noted() + 1]
        return [len([count for count in counts if count > 0])]

    def area(self, since, until):
        if until < since or until > LAST_MINUTE + 1:
            return [WRONG_NUMBER]
        return [sum(self.there_by_minute()[since:until])]

    def before(self, minute):
        if minute > LAST_MINUTE:
            return [WRONG_NUMBER]
        came = [entered for entered in self.came_minutes() if entered <= minute]
        gone = [went for went in self.gone_minutes() if went <= minute]
        return [len(came), len(gone)]

    def total(self):
        if self.there_now() > 0:
            return [SOMEBODY_IS_THERE]
        return [self.all_stays()]

    def mean(self):
        if self.there_now() > 0:
            return [SOMEBODY_IS_THERE]
        if len(self.gone) == 0:
            return [NOBODY]
        return [0] + shortened(self.all_stays(), len(self.gone))

    def kind(self, asked):
        if asked >= KINDS:
            return [WRONG_NUMBER]
        if self.there_by_kind()[asked] > 0:
            return [SOMEBODY_IS_THERE]
        came = [minute for minute, kind in self.came if kind == asked]
        gone = [minute for minute, kind in self.gone if kind == asked]
        return [len(came), sum(gone) - sum(came)]

    def first(self):
        return told_of(first_goes_first(self.came_minutes(), self.gone_minutes()))

    def latest(self):
        return told_of(last_goes_first(self.came_minutes(), self.gone_minutes()))

    def as_if(self, places):
        came = self.came_minutes()
        gone = self.gone_minutes()
        if not can_go_so(came, gone, places):
            return [WRONG_NUMBER]
        return told_of(gone_so(came, gone, places))

    def longer(self, minutes):
        stays = first_goes_first(self.came_minutes(), self.gone_minutes())
        return [len([stay for stay in stays if stay > minutes])]

    def state(self):
        return [len(self.came), len(self.gone), self.last_noted()]
