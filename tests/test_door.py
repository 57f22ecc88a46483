"""What daysums.door.answers promises of start, in, out, close, present, there, kinds, most, busy and area."""

import unittest

from daysums.door import answers

LARGEST = 4294967295

START = [0]
THERE = [5]
KINDS = [6]
MOST = [7]
BUSY = [8]


def come(minute, kind):
    return [1, minute, kind]


def leave(minute, kind):
    return [2, minute, kind]


def close(minute):
    return [3, minute]


def present(minute):
    return [4, minute]


def area(since, until):
    return [9, since, until]


def ask(*calls):
    """The answers, one list a call, with the counts before them checked and taken off."""
    numbers = answers([number for call in calls for number in call])
    told = []
    while numbers:
        count = numbers[0]
        assert 0 < count < len(numbers), numbers
        told.append(numbers[1:1 + count])
        numbers = numbers[1 + count:]
    assert len(told) == len(calls), told
    return told


def last(*calls):
    return ask(*calls)[-1]


# Two of kind 0 and one of kind 2 come, one of kind 0 goes, one of kind 3 comes.
MORNING = [START, come(10, 0), come(10, 2), come(12, 0), leave(15, 0), come(20, 3)]


class TheList(unittest.TestCase):
    def test_counts_stand_before_answers(self):
        self.assertEqual(answers([0]), [1, 0])
        calls = [5, 0, 1, 3, 2, 6, 7, 1, 2, 1, 2, 5, 2, 9, 0, 501, 3, 7]
        self.assertEqual(
            answers(calls),
            [1, -11, 1, 0, 1, 1, 5, 4, 0, 0, 1, 0, 2, 1, 3, 1, -22, 1, 0, 1, 2, 1, -6],
        )

    def test_what_is_handed_in_stays(self):
        calls = [number for call in MORNING + [close(30), KINDS, MOST, area(0, 501)] for number in call]
        before = list(calls)
        answers(calls)
        self.assertEqual(calls, before)

    def test_nothing_is_kept_from_one_time_to_the_next(self):
        calls = [number for call in MORNING + [KINDS, MOST, BUSY] for number in call]
        first = answers(calls)
        self.assertEqual(answers(calls), first)
        self.assertEqual(answers([5, 1, 0, 0]), [1, -11, 1, -11])
        self.assertEqual(answers(calls), first)

    def test_an_answer_given_back_is_nobody_elses(self):
        first = answers([0, 6])
        first.append(7)
        self.assertEqual(answers([0, 6]), [1, 0, 5, 4, 0, 0, 0, 0])

    def test_all_are_whole_numbers_in_a_list(self):
        told = answers([5] + [number for call in MORNING + [KINDS, MOST, BUSY, close(20)] for number in call])
        self.assertIs(type(told), list)
        self.assertEqual({type(number) for number in told}, {int})

    def test_two_hundred_calls(self):
        calls = [START] + [come(i, i % 4) for i in range(30)] + [area(0, 501)] * 169
        self.assertEqual(ask(*calls)[31:], [[sum(501 - i for i in range(30))]] * 169)


class Start(unittest.TestCase):
    def test_before_it_every_other_call_answers_minus_11(self):
        calls = [come(1, 1), leave(1, 1), close(1), present(1), THERE, KINDS, MOST, BUSY, area(0, 1)]
        for call in calls:
            self.assertEqual(ask(call), [[-11]])
        self.assertEqual(ask(*calls), [[-11]] * 9)

    def test_minus_11_is_ahead_of_every_other_refusal(self):
        for call in [come(501, 4), leave(501, 4), close(501), present(501), area(2, 1)]:
            self.assertEqual(ask(call), [[-11]])

    def test_nobody_comes_before_it(self):
        self.assertEqual(ask(come(5, 0), START, THERE, come(0, 0)), [[-11], [0], [0], [1]])

    def test_a_second_start_forgets_all(self):
        again = ask(*MORNING, close(400), START, THERE, KINDS, MOST, BUSY, area(0, 501), come(0, 1), present(0))
        self.assertEqual(
            again[7:], [[0], [0], [4, 0, 0, 0, 0], [0, 0], [0], [0], [1], [1]]
        )

    def test_thirty_more_come_after_a_second_start(self):
        full = [START] + [come(1, 0)] * 30
        self.assertEqual(ask(*full, come(1, 0), *full, come(1, 0))[30:], [[30], [-28], [0]]
                         + [[i] for i in range(1, 31)] + [[-28]])

    def test_a_second_start_while_somebody_is_there(self):
        self.assertEqual(ask(START, come(3, 3), START, leave(3, 3), close(3)), [[0], [1], [0], [-16], [-6]])


class ComeAndGo(unittest.TestCase):
    def test_how_many_are_there(self):
        self.assertEqual(ask(*MORNING), [[0], [1], [2], [3], [2], [3]])

    def test_close_tells_how_many_went(self):
        told = ask(*MORNING, close(30), THERE, KINDS, close(30))
        self.assertEqual(told[6:], [[3], [0], [4, 0, 0, 0, 0], [-6]])

    def test_out_counts_those_of_every_kind(self):
        self.assertEqual(last(START, come(1, 0), come(1, 1), come(1, 1), leave(2, 1)), [2])

    def test_who_comes_after_all_went(self):
        self.assertEqual(last(*MORNING, close(30), come(30, 1)), [1])
        self.assertEqual(last(*MORNING, close(30), come(30, 1), present(30)), [1])

    def test_the_minute_before_the_last_is_refused(self):
        for known in [[come(7, 1)], [come(3, 1), come(3, 1), leave(7, 1)]]:
            day = [START] + known
            for call in [come(6, 1), leave(6, 1), close(6)]:
                self.assertEqual(last(*day, call), [-22])

    def test_the_last_minute_itself_is_taken(self):
        for known in [[come(7, 1)], [come(3, 1), come(3, 1), leave(7, 1)]]:
            day = [START] + known
            self.assertEqual(last(*day, come(7, 1)), [2])
            self.assertEqual(last(*day, leave(7, 1)), [0])
            self.assertEqual(last(*day, close(7)), [1])

    def test_a_close_moves_the_last_minute(self):
        day = [START, come(3, 1), close(9)]
        self.assertEqual(last(*day, come(8, 1)), [-22])
        self.assertEqual(last(*day, come(9, 1)), [1])

    def test_what_is_refused_changes_nothing(self):
        day = [START, come(7, 1)]
        refused = [come(501, 1), come(6, 1), come(9, 4), leave(9, 0), leave(9, 4), leave(501, 1), close(501)]
        told = ask(*day, *refused, KINDS, MOST, BUSY, come(7, 2), present(7))
        self.assertEqual(told[2:9], [[-22], [-22], [-22], [-16], [-22], [-22], [-22]])
        self.assertEqual(told[9:], [[4, 0, 1, 0, 0], [1, 7], [1], [2], [2]])

    def test_a_refused_close_moves_no_minute(self):
        self.assertEqual(ask(START, close(9), come(8, 1)), [[0], [-6], [1]])

    def test_a_refused_thirty_first_moves_no_minute(self):
        day = [START] + [come(1, 0)] * 30
        self.assertEqual(ask(*day, come(9, 0), leave(2, 0))[31:], [[-28], [29]])

    def test_minutes_up_to_500(self):
        self.assertEqual(last(START, come(500, 0)), [1])
        self.assertEqual(last(START, come(501, 0)), [-22])
        self.assertEqual(last(START, come(0, 0), leave(500, 0)), [0])
        self.assertEqual(last(START, come(0, 0), leave(501, 0)), [-22])
        self.assertEqual(last(START, come(0, 0), close(500)), [1])
        self.assertEqual(last(START, come(0, 0), close(501)), [-22])

    def test_kinds_up_to_3(self):
        self.assertEqual(last(START, come(0, 3)), [1])
        self.assertEqual(last(START, come(0, 4)), [-22])
        self.assertEqual(last(START, come(0, 3), leave(0, 3)), [0])
        self.assertEqual(last(START, come(0, 3), leave(0, 4)), [-22])

    def test_thirty_come_and_no_more(self):
        told = ask(START, *[come(i, i % 4) for i in range(31)])
        self.assertEqual(told, [[i] for i in range(31)] + [[-28]])

    def test_thirty_who_came_count_though_they_went(self):
        rounds = [call for i in range(30) for call in (come(i, 0), leave(i, 0))]
        self.assertEqual(ask(START, *rounds)[-2:], [[1], [0]])
        self.assertEqual(last(START, *rounds, come(40, 0)), [-28])

    def test_out_of_a_kind_of_which_nobody_is_there(self):
        self.assertEqual(last(START, leave(0, 0)), [-16])
        day = [START, come(1, 0), come(1, 1), come(1, 3)]
        self.assertEqual(last(*day, leave(1, 2)), [-16])
        self.assertEqual(ask(*day, leave(2, 1), leave(3, 1))[4:], [[2], [-16]])
        self.assertEqual(last(*day, leave(2, 1), come(3, 1), leave(3, 1)), [2])

    def test_close_with_nobody_there(self):
        self.assertEqual(last(START, close(0)), [-6])
        self.assertEqual(last(START, come(1, 0), leave(2, 0), close(2)), [-6])

    def test_the_first_named_refusal_is_answered(self):
        full = [START] + [come(5, 0)] * 30
        for call in [come(4, 0), come(501, 0), come(5, 4)]:
            self.assertEqual(last(*full, call), [-22])
        for call in [leave(4, 1), leave(501, 1), leave(5, 4)]:
            self.assertEqual(last(START, come(5, 0), call), [-22])
        empty = [START, come(5, 0), leave(6, 0)]
        for call in [close(5), close(501), leave(5, 0), leave(6, 4)]:
            self.assertEqual(last(*empty, call), [-22])

    def test_the_largest_numbers(self):
        for call in [come(LARGEST, 0), come(0, LARGEST), come(LARGEST, LARGEST), leave(LARGEST, 0),
                     leave(0, LARGEST), close(LARGEST), present(LARGEST), area(LARGEST, 0), area(0, LARGEST),
                     area(LARGEST, LARGEST)]:
            self.assertEqual(last(START, come(0, 0), call), [-22])


class Sums(unittest.TestCase):
    def test_present_minute_by_minute(self):
        day = MORNING + [close(30)]
        expected = {0: 0, 9: 0, 10: 2, 11: 2, 12: 3, 14: 3, 15: 2, 19: 2, 20: 3, 29: 3, 30: 0, 31: 0, 500: 0}
        for minute, count in expected.items():
            self.assertEqual(last(*day, present(minute)), [count], minute)

    def test_present_up_to_500(self):
        self.assertEqual(ask(*MORNING, present(500), present(501))[6:], [[3], [-22]])
        self.assertEqual(ask(START, present(500), present(501)), [[0], [0], [-22]])

    def test_there_and_kinds(self):
        self.assertEqual(ask(*MORNING, THERE, KINDS)[6:], [[3], [4, 1, 0, 1, 1]])
        day = [START, come(1, 3), come(1, 3), come(2, 1), come(3, 3), leave(3, 3)]
        self.assertEqual(ask(*day, THERE, KINDS)[6:], [[3], [4, 0, 1, 0, 2]])

    def test_most_and_the_first_minute_of_it(self):
        self.assertEqual(last(*MORNING, MOST), [3, 12])
        self.assertEqual(last(*MORNING, come(21, 3), MOST), [4, 21])
        self.assertEqual(last(*MORNING, close(30), MOST), [3, 12])
        self.assertEqual(last(START, come(0, 0), MOST), [1, 0])
        self.assertEqual(last(START, come(500, 0), MOST), [1, 500])

    def test_busy_minutes(self):
        self.assertEqual(last(*MORNING, BUSY), [11])
        self.assertEqual(last(*MORNING, close(30), BUSY), [20])
        self.assertEqual(last(START, come(4, 0), BUSY), [1])
        self.assertEqual(last(START, come(0, 0), leave(500, 0), BUSY), [500])
        self.assertEqual(last(START, come(0, 0), come(500, 0), BUSY), [501])

    def test_minutes_with_nobody_are_not_busy(self):
        self.assertEqual(last(START, come(2, 0), leave(4, 0), come(10, 1), leave(13, 1), BUSY), [5])

    def test_area_from_a_up_to_b(self):
        day = MORNING + [close(30)]
        self.assertEqual(last(*day, area(0, 501)), [2 * 2 + 3 * 3 + 2 * 5 + 3 * 10])
        self.assertEqual(last(*day, area(10, 12)), [4])
        self.assertEqual(last(*day, area(11, 13)), [5])
        self.assertEqual(last(*day, area(14, 15)), [3])
        self.assertEqual(last(*day, area(29, 500)), [3])
        self.assertEqual(last(START, come(500, 0), area(500, 501)), [1])
        self.assertEqual(last(START, come(500, 0), area(0, 500)), [0])

    def test_area_at_its_edges(self):
        for call, answer in [(area(12, 11), -22), (area(12, 12), 0), (area(0, 0), 0), (area(501, 501), 0),
                             (area(501, 500), -22), (area(502, 502), -22), (area(502, 501), -22),
                             (area(0, 502), -22), (area(0, 501), 2 * 2 + 3 * 3 + 2 * 5 + 3 * 481)]:
            self.assertEqual(last(*MORNING, call), [answer], call)

    def test_all_stays_are_all_who_were_there(self):
        stays = (15 + 30 * 3) - (10 + 10 + 12 + 20)
        self.assertEqual(last(*MORNING, close(30), area(0, 501)), [stays])


class Corners(unittest.TestCase):
    def test_who_comes_and_goes_in_one_minute(self):
        day = [START, come(6, 2), leave(6, 2)]
        told = ask(*day, present(6), THERE, KINDS, MOST, BUSY, area(0, 501))
        self.assertEqual(told, [[0], [1], [0], [0], [0], [4, 0, 0, 0, 0], [0, 0], [0], [0]])

    def test_one_in_one_minute_beside_others(self):
        day = [START, come(5, 0), come(6, 2), leave(6, 2), come(8, 1), leave(8, 0)]
        self.assertEqual(ask(*day, present(6), MOST, BUSY, area(5, 9))[6:], [[1], [1, 5], [4], [4]])

    def test_several_at_once(self):
        day = [START, come(6, 2), come(6, 2), come(6, 0), leave(9, 2), leave(9, 0)]
        told = ask(*day, present(5), present(6), present(9), MOST, KINDS, BUSY)
        self.assertEqual(told[6:], [[0], [3], [1], [3, 6], [4, 0, 0, 1, 0], [4]])

    def test_a_kind_of_which_nobody_came(self):
        self.assertEqual(ask(START, come(1, 0), KINDS, leave(1, 3))[2:], [[4, 1, 0, 0, 0], [-16]])

    def test_a_day_without_anybody(self):
        told = ask(START, present(0), THERE, KINDS, MOST, BUSY, area(0, 501), close(0), leave(0, 0))
        self.assertEqual(told, [[0], [0], [0], [4, 0, 0, 0, 0], [0, 0], [0], [0], [-6], [-16]])

    def test_a_minute_behind_the_last(self):
        self.assertEqual(ask(*MORNING, present(21), present(499), area(20, 25), BUSY)[6:], [[3], [3], [15], [11]])


if __name__ == "__main__":
    unittest.main()
