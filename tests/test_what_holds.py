"""What holds of every day: sums that are the same however they are told, on many drawn days."""

import itertools
import random
import unittest

from asking import (
    FIRST, KINDS, LATEST, MEAN, START, STATE, THERE, TOTAL, UNDO, area, as_if, before, behind, close, come, kind,
    last, leave, longer, present,
)


def drawn_day(draw, most):
    """A day of at most so many who come, some of whom may still be there."""
    calls = [START]
    there = []
    came = 0
    minute = draw.choice([0, 0, 100])
    for turn in range(3 * most):
        minute += draw.choice([0, 0, 0, 1, 2, 7])
        step = draw.randrange(20)
        if step < 11 and came < most:
            there.append(draw.randrange(4))
            calls.append(come(minute, there[-1]))
            came += 1
        elif step < 19 and there:
            calls.append(leave(minute, there.pop(draw.randrange(len(there)))))
        elif step == 19:
            calls.append(UNDO)
            there = kinds_there(calls)
    return calls, minute


def kinds_there(calls):
    return [k for k, count in enumerate(last(*calls, KINDS)[1:]) for one in range(count)]


def finished_day(draw, most):
    """A drawn day on which nobody is there any more."""
    calls, minute = drawn_day(draw, most)
    return calls + [close(minute + draw.choice([0, 1, 5]))]


def noted_minutes(calls):
    """The minutes at which they came and at which they went, as far as they weren't taken back."""
    came, gone = [], []
    for call in calls:
        if call[0] == 1:
            came.append(call[1])
        if call[0] == 2:
            gone.append(call[1])
        if call[0] == 3:
            gone += [call[1]] * (len(came) - len(gone))
        if call[0] == 18:
            gone = gone[:-1]
    return came, gone


def drawn_places(draw, calls):
    came, gone = noted_minutes(calls)
    left = list(range(len(came)))
    for minute in gone:
        place = draw.choice([place for place in left if came[place] <= minute])
        left.remove(place)
        yield place


class WhatHolds(unittest.TestCase):
    def days(self, count, most, drawn):
        draw = random.Random(count + most)
        for turn in range(count):
            yield draw, drawn(draw, most)

    def test_all_stays_are_all_who_were_there(self):
        for draw, day in self.days(150, 30, finished_day):
            total, whole, first, latest = behind(day, TOTAL, area(0, 501), FIRST, LATEST)
            self.assertEqual(total, whole)
            self.assertEqual([first[0], latest[0]], total * 2)
            self.assertEqual(total, [sum(answer[0] for answer in behind(day, *[present(m) for m in range(101)]))
                                     + last(*day, area(101, 501))[0]])

    def test_all_stays_are_the_same_whoever_went_as_whom(self):
        for draw, day in self.days(150, 30, finished_day):
            so = [as_if(*drawn_places(draw, day)) for turn in range(10)]
            told = behind(day, TOTAL, *so)
            self.assertEqual([answer[0] for answer in told], told[0] * 11)

    def test_mean_is_all_stays_by_how_many_went(self):
        for draw, day in self.days(150, 9, finished_day):
            total, mean, state = behind(day, TOTAL, MEAN, STATE)
            if state[1] == 0:
                self.assertEqual(mean, [-6])
                continue
            self.assertEqual(mean[1] * state[1], total[0] * mean[2])
            self.assertFalse([d for d in range(2, 31) if mean[1] % d == 0 and mean[2] % d == 0])
            self.assertGreater(mean[2], 0)

    def test_first_is_the_least_and_latest_the_most_of_all_ways_to_go(self):
        ways = 0
        for draw, day in self.days(150, 5, finished_day):
            count = last(*day, STATE)[1]
            told = behind(day, FIRST, LATEST, *[as_if(*so) for so in itertools.permutations(range(count))])
            first, latest = told[:2]
            so = [answer for answer in told[2:] if answer != [-22]]
            ways += len(so)
            self.assertEqual(first[1], min(longest for whole, longest, squares in so))
            self.assertEqual(first[2], min(squares for whole, longest, squares in so))
            self.assertEqual(latest[2], max(squares for whole, longest, squares in so))
        self.assertGreater(ways, 1000)

    def test_first_is_the_least_and_latest_the_most_of_drawn_ways(self):
        for draw, day in self.days(150, 30, finished_day):
            first, latest, *told = behind(day, FIRST, LATEST, *[as_if(*drawn_places(draw, day)) for turn in range(10)])
            for whole, longest, squares in told:
                self.assertLessEqual(first[1], longest)
                self.assertLessEqual(first[2], squares)
                self.assertGreaterEqual(latest[2], squares)

    def test_first_is_as_in_order(self):
        for draw, (day, minute) in self.days(150, 30, drawn_day):
            count = last(*day, STATE)[1]
            first, so = behind(day, FIRST, as_if(*range(count)))
            self.assertEqual(first, so)

    def test_longer_falls_from_all_to_none(self):
        for draw, (day, minute) in self.days(100, 12, drawn_day):
            first, state, *told = behind(day, FIRST, STATE, *[longer(n) for n in range(150)])
            counts = [answer[0] for answer in told]
            self.assertEqual(counts, sorted(counts, reverse=True))
            self.assertLessEqual(counts[0], state[1])
            self.assertEqual(len([count for count in counts if count]), first[1])
            self.assertEqual(sum(counts), first[0])

    def test_kinds_make_the_whole(self):
        for draw, day in self.days(150, 30, finished_day):
            total, state, *told = behind(day, TOTAL, STATE, *[kind(k) for k in range(4)])
            self.assertEqual([sum(count for count, stays in told), sum(stays for count, stays in told)],
                             [state[0], total[0]])

    def test_never_more_have_gone_than_came_of_any_kind(self):
        for draw, (day, minute) in self.days(60, 20, drawn_day):
            for length in range(1, len(day) + 1):
                kinds, there, state = behind(day[:length], KINDS, THERE, STATE)
                self.assertEqual(kinds[0], 4)
                self.assertGreaterEqual(min(kinds[1:]), 0)
                self.assertEqual([sum(kinds[1:])], there)
                self.assertEqual(there, [state[0] - state[1]])

    def test_present_is_who_came_less_who_went(self):
        for draw, (day, minute) in self.days(60, 20, drawn_day):
            for told in range(0, 501, 9):
                there, (came, gone) = behind(day, present(told), before(told))
                self.assertGreaterEqual(came, gone)
                self.assertEqual(there, [came - gone])
            self.assertEqual(last(*day, before(500)), last(*day, STATE)[:2])

    def test_undo_takes_back_an_out_for_every_call(self):
        asked = [KINDS, THERE, STATE, FIRST, LATEST, TOTAL, MEAN, longer(3), before(500), area(0, 501), [7], [8]]
        for draw, (day, minute) in self.days(100, 20, drawn_day):
            for k in kinds_there(day)[:1]:
                self.assertEqual(behind(day + [leave(minute + 3, k), UNDO], *asked), behind(day, *asked))


if __name__ == "__main__":
    unittest.main()
