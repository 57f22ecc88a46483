"""Many drawn days, each told again straight from the words of the document."""

import fractions
import random
import unittest

from asking import one_list
from daysums.door import answers


class Plain:
    """The words as they stand: each sum counts over the notes of the day anew."""

    def __init__(self):
        self.notes = None

    def count(self, step, minute, kinds=range(4)):
        return sum(1 for s, m, k in self.notes if s == step and m <= minute and k in kinds)

    def by(self, minute, kinds=range(4)):
        return self.count("came", minute, kinds) - self.count("went", minute, kinds)

    def minutes(self, step, kinds=range(4)):
        return [m for s, m, k in self.notes if s == step and k in kinds]

    def refused(self, minute, kind):
        return minute > 500 or kind > 3 or any(m > minute for s, m, k in self.notes)

    def answer(self, call, *given):
        if call == 0:
            self.notes = []
            return [0]
        if self.notes is None:
            return [-11]
        return getattr(self, f"call_{call}")(*given)

    def call_1(self, minute, kind):
        if self.refused(minute, kind):
            return [-22]
        if self.count("came", 500) == 30:
            return [-28]
        self.notes.append(("came", minute, kind))
        return [self.by(500)]

    def call_2(self, minute, kind):
        if self.refused(minute, kind):
            return [-22]
        if not self.by(500, [kind]):
            return [-16]
        self.notes.append(("went", minute, kind))
        return [self.by(500)]

    def call_3(self, minute):
        if self.refused(minute, 0):
            return [-22]
        went = 0
        for kind in range(4):
            while self.by(500, [kind]):
                self.notes.append(("went", minute, kind))
                went += 1
        return [went or -6]

    def call_4(self, minute):
        return [-22] if minute > 500 else [self.by(minute)]

    def call_5(self):
        return [self.by(500)]

    def call_6(self):
        return [4] + [self.by(500, [kind]) for kind in range(4)]

    def call_7(self):
        best = [0, 0]
        for minute in range(501):
            if self.by(minute) > best[0]:
                best = [self.by(minute), minute]
        return best

    def call_8(self):
        last = max((m for s, m, k in self.notes), default=-1)
        return [sum(1 for minute in range(last + 1) if self.by(minute))]

    def call_9(self, since, until):
        if until < since or until > 501:
            return [-22]
        return [sum(self.by(minute) for minute in range(since, until))]

    def call_10(self):
        return [-16] if self.by(500) else [sum(self.minutes("went")) - sum(self.minutes("came"))]

    def call_11(self):
        if self.by(500):
            return [-16]
        if not self.minutes("went"):
            return [-6]
        mean = fractions.Fraction(self.call_10()[0], len(self.minutes("went")))
        return [0, mean.numerator, mean.denominator]

    def call_12(self):
        return self.told(list(range(len(self.minutes("went")))))

    def call_13(self):
        came = self.minutes("came")
        places = []
        for went in self.minutes("went"):
            places.append(max(i for i in range(len(came)) if came[i] <= went and i not in places))
        return self.told(places)

    def call_14(self, count, *places):
        assert count == len(places)
        return self.told(places) if self.as_told(places) else [-22]

    def call_15(self, kind):
        if kind > 3:
            return [-22]
        if self.by(500, [kind]):
            return [-16]
        came, went = self.minutes("came", [kind]), self.minutes("went", [kind])
        return [len(came), sum(went) - sum(came)]

    def call_16(self, minute):
        return [-22] if minute > 500 else [self.count("came", minute), self.count("went", minute)]

    def call_17(self, minutes):
        return [sum(1 for stay in self.stays(range(len(self.minutes("went")))) if stay > minutes)]

    def call_18(self):
        for place in reversed(range(len(self.notes))):
            if self.notes[place][0] == "went":
                del self.notes[place]
                return [len(self.minutes("went"))]
        return [-6]

    def call_19(self):
        return [len(self.minutes("came")), len(self.minutes("went")), max((m for s, m, k in self.notes), default=0)]

    def as_told(self, places):
        came, went = self.minutes("came"), self.minutes("went")
        if len(places) != len(went) or any(places.count(place) > 1 for place in places):
            return False
        return all(place in range(len(came)) and came[place] <= went[i] for i, place in enumerate(places))

    def stays(self, places):
        came, went = self.minutes("came"), self.minutes("went")
        return [went[i] - came[place] for i, place in enumerate(places)]

    def told(self, places):
        stays = self.stays(places)
        return [sum(stays), max(stays, default=0), sum(stay ** 2 for stay in stays)]


NOTING = [1] * 9 + [2] * 9 + [3, 18, 18]


def last_noted(plain):
    return max((m for s, m, k in plain.notes or []), default=0)


def drawn_minute(draw, plain):
    last = last_noted(plain)
    return draw.choice([last, last + 1, max(0, last - 1), max(0, last - 9), 500, 501, draw.randrange(600)])


def drawn_note(draw, plain):
    call = draw.choice(NOTING)
    last = last_noted(plain)
    minute = draw.choice([last] * 6 + [last + 1] * 4 + [last + 3] * 4 + [last + 20, max(0, last - 1), 501])
    kind = draw.choice([0, 0, 0, 1, 1, 2, 2, 3, 3, 4])
    return [call] + {1: [minute, kind], 2: [minute, kind], 3: [minute], 18: []}[call]


def drawn_places(draw, plain):
    """Places that would do, as often as not, or nearly."""
    came, went = plain.minutes("came"), plain.minutes("went")
    left = list(range(len(came)))
    places = []
    for minute in went:
        fitting = [place for place in left if came[place] <= minute]
        places.append(draw.choice(fitting))
        left.remove(places[-1])
    change = draw.choice(["none", "none", "none", "shuffle", "less", "more", "other", "swap"])
    if change == "shuffle":
        draw.shuffle(places)
    if change == "less":
        places = places[:-1]
    if change == "more":
        places.append(draw.randrange(len(came) + 1))
    if change == "other" and places:
        places[draw.randrange(len(places))] = draw.choice([len(came), len(came) - 1, draw.randrange(35), 2 ** 32 - 1])
    if change == "swap" and len(places) > 1:
        places[0], places[-1] = places[-1], places[0]
    return places


def drawn_question(draw, plain):
    call = draw.choice([4, 5, 6, 7, 8, 9, 10, 11, 12, 13, 14, 14, 14, 15, 16, 17, 19])
    if call in (4, 16):
        return [call, drawn_minute(draw, plain)]
    if call == 9:
        minute = drawn_minute(draw, plain)
        return [call, minute, draw.choice([minute, minute + 1, minute + 9, max(0, minute - 1), 501, 502])]
    if call == 14:
        places = drawn_places(draw, plain) if plain.notes is not None else [0, 1]
        return [call, len(places)] + places
    if call == 15:
        return [call, draw.randrange(6)]
    if call == 17:
        return [call, draw.choice([0, 1, 2, 3, 5, 8, draw.randrange(60), 500, 2 ** 32 - 1])]
    return [call]


def drawn_day(draw):
    """The calls of a day, and what the words answer to them."""
    plain = Plain()
    calls = []
    told = []
    starts = [draw.choice([0, 0, 0, 0, 1, 30]), draw.choice([0, draw.randrange(100)])]
    noting = draw.choice([1, 2, 4])
    for turn in range(draw.randrange(1, 201)):
        if turn in starts:
            call = [0]
        elif draw.randrange(noting + 1):
            call = drawn_note(draw, plain)
        else:
            call = drawn_question(draw, plain)
        answer = plain.answer(*call)
        calls.append(call)
        told += [len(answer)] + answer
    return calls, told


# By a call's number: the refusals it may answer with, and 0 for what isn't refused.
REFUSED = [(call, -11) for call in range(1, 20)] + [
    (1, -22), (1, -28), (2, -22), (2, -16), (3, -22), (3, -6), (4, -22), (9, -22), (10, -16), (11, -16), (11, -6),
    (14, -22), (15, -22), (15, -16), (16, -22), (18, -6),
]
ANSWERED = [(call, 0) for call in range(20)]


class AgainstTheWords(unittest.TestCase):
    def test_drawn_days(self):
        draw = random.Random(20)
        seen = {}
        for turn in range(400):
            calls, told = drawn_day(draw)
            numbers = answers(one_list(calls))
            self.assertEqual(numbers, told, calls)
            self.note_what_was_seen(seen, calls, numbers)
        self.assertEqual(sorted(seen), sorted(REFUSED + ANSWERED))
        self.assertGreater(min(seen.values()), 4, seen)

    def note_what_was_seen(self, seen, calls, numbers):
        """How often each call was answered, and refused by each number: what isn't drawn isn't tested."""
        place = 0
        for call in calls:
            key = (call[0], min(numbers[place + 1], 0))
            seen[key] = seen.get(key, 0) + 1
            place += 1 + numbers[place]


if __name__ == "__main__":
    unittest.main()
