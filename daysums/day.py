"""One day at a door: who came and who went, by minute and kind, and the sums of it.

Every call is answered by a list: a refusal alone, or all the numbers of the answer.
"""

LAST_MINUTE = 500
KINDS = 4
MOST_WHO_COME = 30

NOT_STARTED = -11
WRONG_NUMBER = -22
ALL_HAVE_COME = -28
NONE_OF_THE_KIND = -16
NOBODY = -6


class Day:
    def __init__(self):
        self.started = False
        # Pairs of minute and kind, in the order in which they came and went.
        self.came = []
        self.gone = []

    def last_noted(self):
        return max([minute for minute, kind in self.came + self.gone], default=0)

    def is_wrong_minute(self, minute):
        return minute < self.last_noted() or minute > LAST_MINUTE

    def is_wrong_note(self, minute, kind):
        return self.is_wrong_minute(minute) or kind >= KINDS

    def there_now(self):
        return len(self.came) - len(self.gone)

    def there_by_kind(self):
        counts = [0] * KINDS
        for minute, kind in self.came:
            counts[kind] += 1
        for minute, kind in self.gone:
            counts[kind] -= 1
        return counts

    # A whole minute is added up before its count is taken, so that who comes
    # and goes in one minute isn't there by it.
    def there_by_minute(self):
        changes = [0] * (LAST_MINUTE + 1)
        for minute, kind in self.came:
            changes[minute] += 1
        for minute, kind in self.gone:
            changes[minute] -= 1
        counts = []
        count = 0
        for change in changes:
            count += change
            counts.append(count)
        return counts

    def start(self):
        self.started = True
        self.came = []
        self.gone = []
        return [0]

    def come(self, minute, kind):
        if self.is_wrong_note(minute, kind):
            return [WRONG_NUMBER]
        if len(self.came) >= MOST_WHO_COME:
            return [ALL_HAVE_COME]
        self.came.append((minute, kind))
        return [self.there_now()]

    def leave(self, minute, kind):
        if self.is_wrong_note(minute, kind):
            return [WRONG_NUMBER]
        if self.there_by_kind()[kind] == 0:
            return [NONE_OF_THE_KIND]
        self.gone.append((minute, kind))
        return [self.there_now()]

    def close(self, minute):
        if self.is_wrong_minute(minute):
            return [WRONG_NUMBER]
        leaving = self.there_by_kind()
        if sum(leaving) == 0:
            return [NOBODY]
        for kind in range(KINDS):
            self.gone.extend([(minute, kind)] * leaving[kind])
        return [sum(leaving)]

    def present(self, minute):
        if minute > LAST_MINUTE:
            return [WRONG_NUMBER]
        return [self.there_by_minute()[minute]]

    def there(self):
        return [self.there_now()]

    def kinds(self):
        return [KINDS] + self.there_by_kind()

    def most(self):
        counts = self.there_by_minute()
        top = max(counts)
        return [top, counts.index(top)]

    def busy(self):
        counts = self.there_by_minute()[:self.last_noted() + 1]
        return [len([count for count in counts if count > 0])]

    def area(self, since, until):
        if until < since or until > LAST_MINUTE + 1:
            return [WRONG_NUMBER]
        return [sum(self.there_by_minute()[since:until])]
