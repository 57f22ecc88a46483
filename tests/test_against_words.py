"""Many drawn days, each told again straight from the words of the document."""

import random
import unittest

from daysums.door import answers


class Plain:
    """The words as they stand: each sum counts over the notes of the day anew."""

    def __init__(self):
        self.notes = None

    def count(self, step, minute, kinds=range(4)):
        return sum(1 for s, m, k in self.notes if s == step and m <= minute and k in kinds)

    def by(self, minute, kinds=range(4)):
        return self.count("came", minute, kinds) - self.count("went", minute, kinds)

    def refused(self, minute, kind):
        return minute > 500 or kind > 3 or any(m > minute for s, m, k in self.notes)

    def answer(self, call, *given):
        if call == 0:
            self.notes = []
            return [0]
        if self.notes is None:
            return [-11]
        return getattr(self, f"call_{call}")(*given)

    def call_1(self, minute, kind):
        if self.refused(minute, kind):
            return [-22]
        if self.count("came", 500) == 30:
            return [-28]
        self.notes.append(("came", minute, kind))
        return [self.by(500)]

    def call_2(self, minute, kind):
        if self.refused(minute, kind):
            return [-22]
        if not self.by(500, [kind]):
            return [-16]
        self.notes.append(("went", minute, kind))
        return [self.by(500)]

    def call_3(self, minute):
        if self.refused(minute, 0):
            return [-22]
        went = 0
        for kind in range(4):
            while self.by(500, [kind]):
                self.notes.append(("went", minute, kind))
                went += 1
        return [went or -6]

    def call_4(self, minute):
        return [-22] if minute > 500 else [self.by(minute)]

    def call_5(self):
        return [self.by(500)]

    def call_6(self):
        return [4] + [self.by(500, [kind]) for kind in range(4)]

    def call_7(self):
        best = [0, 0]
        for minute in range(501):
            if self.by(minute) > best[0]:
                best = [self.by(minute), minute]
        return best

    def call_8(self):
        last = max((m for s, m, k in self.notes), default=-1)
        return [sum(1 for minute in range(last + 1) if self.by(minute))]

    def call_9(self, since, until):
        if until < since or until > 501:
            return [-22]
        return [sum(self.by(minute) for minute in range(since, until))]


def drawn_call(draw, clock):
    call = draw.choice([1] * 8 + [2] * 6 + [3, 4, 5, 6, 7, 8, 9])
    minute = draw.choice([clock, clock, clock, clock + 1, max(0, clock - 1), 500, 501, draw.randrange(600)])
    kind = draw.choice([0, 0, 1, 2, 3, 3, 4])
    if call in (1, 2):
        minute = draw.choice([clock, clock, clock + 1, clock + 2, max(0, clock - 1), min(minute, clock + 20)])
        return [call, minute, kind]
    if call in (3, 4):
        return [call, minute if call == 4 else min(minute, clock + 5)]
    if call == 9:
        return [call, minute, draw.choice([minute, minute + 1, minute + 9, max(0, minute - 1), 501, 502])]
    return [call]


def drawn_day(draw):
    calls = []
    clock = draw.choice([0, 0, 3, 470])
    for turn in range(draw.randrange(1, 80)):
        clock += draw.choice([0, 0, 0, 1, 5])
        calls.append(drawn_call(draw, clock))
    calls.insert(draw.choice([0, 0, 0, 1]), [0])
    if draw.randrange(4) == 0:
        calls.insert(draw.randrange(len(calls)), [0])
    return calls


class AgainstTheWords(unittest.TestCase):
    def test_drawn_days(self):
        draw = random.Random(20)
        for turn in range(300):
            calls = drawn_day(draw)
            plain = Plain()
            told = []
            for call in calls:
                answer = plain.answer(*call)
                told += [len(answer)] + answer
            self.assertEqual(answers([number for call in calls for number in call]), told, calls)


if __name__ == "__main__":
    unittest.main()
