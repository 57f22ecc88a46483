"""The list that daysums.door.answers takes, and start, in, out, close, present, there, kinds, most, busy and area."""

import contextlib
import io
import unittest

from asking import (
    BUSY, FIRST, KINDS, LARGEST, LATEST, MEAN, MORNING, MOST, START, STATE, THERE, TOTAL, UNDO, area, as_if, ask,
    before, behind, close, come, kind, last, leave, longer, one_list, present,
)
from daysums.door import answers

# MORNING, then all go; some of them are called back and go again.
EVENING = MORNING + [close(30), UNDO, close(31), UNDO, UNDO, close(40)]
TELLING = [
    present(15), THERE, KINDS, MOST, BUSY, area(0, 501), TOTAL, MEAN, FIRST, LATEST, as_if(3, 1, 2, 0),
    as_if(0, 1, 2, 3), kind(0), before(15), longer(20), STATE,
]
EVERY_OTHER_CALL = [come(1, 1), leave(1, 1), close(1), UNDO, as_if()] + TELLING


class Watched(list):
    """A list that can't be changed, so that a change taken back later is seen too."""

    def refuse(self, *given, **named):
        raise AssertionError("what is handed in was changed")

    __setitem__ = __delitem__ = __iadd__ = __imul__ = refuse
    append = clear = extend = insert = pop = remove = reverse = sort = refuse


class TheList(unittest.TestCase):
    def test_counts_stand_before_answers(self):
        self.assertEqual(answers([0]), [1, 0])
        calls = [5, 0, 1, 3, 2, 6, 7, 1, 2, 1, 2, 5, 2, 9, 0, 501, 3, 7]
        self.assertEqual(
            answers(calls),
            [1, -11, 1, 0, 1, 1, 5, 4, 0, 0, 1, 0, 2, 1, 3, 1, -22, 1, 0, 1, 2, 1, -6],
        )

    def test_counts_stand_before_answers_of_stays(self):
        calls = [10, 0, 1, 3, 2, 11, 15, 2, 2, 7, 2, 10, 11, 12, 13, 14, 1, 0, 14, 0, 15, 2, 16, 3, 17, 3, 18, 19, 18]
        self.assertEqual(
            answers(calls),
            [1, -11, 1, 0, 1, 1, 1, -16, 1, -16, 1, 0, 1, 4, 3, 0, 4, 1, 3, 4, 4, 16, 3, 4, 4, 16, 3, 4, 4, 16, 1, -22,
             2, 1, 4, 2, 1, 0, 1, 1, 1, 0, 3, 1, 0, 3, 1, -6],
        )

    def test_a_row_is_passed_over_where_it_is_refused(self):
        self.assertEqual(ask(as_if(0, 19, 0), START, as_if(10, 11), THERE), [[-11], [0], [-22], [0]])
        self.assertEqual(ask(as_if(), START, as_if(), THERE), [[-11], [0], [0, 0, 0], [0]])

    def test_what_is_handed_in_stays(self):
        calls = one_list(EVENING + TELLING + [START] + MORNING + TELLING)
        handed = Watched(calls)
        self.assertEqual(answers(handed), answers(calls))
        self.assertEqual(list(handed), calls)

    def test_nothing_is_kept_from_one_time_to_the_next(self):
        calls = one_list(EVENING + TELLING)
        once = answers(calls)
        self.assertEqual(answers(calls), once)
        self.assertEqual(answers([5, 1, 0, 0, 19]), [1, -11, 1, -11, 1, -11])
        self.assertEqual(answers([0, 19, 12]), [1, 0, 3, 0, 0, 0, 3, 0, 0, 0])
        self.assertEqual(answers(calls), once)

    def test_an_answer_given_back_is_nobody_elses(self):
        once = answers([0, 6, 12])
        kept = list(once)
        once.append(7)
        self.assertEqual(answers([0, 6, 12]), kept)

    def test_all_are_whole_numbers_in_a_list(self):
        told = answers([5] + one_list(EVENING + TELLING + MORNING + TELLING))
        self.assertIs(type(told), list)
        self.assertEqual({type(number) for number in told}, {int})

    def test_only_refusals_are_below_0(self):
        for answer in ask(THERE, *EVENING, *TELLING, *MORNING, *TELLING):
            if min(answer) < 0:
                self.assertIn(answer, [[-11], [-22], [-28], [-16], [-6]])

    def test_nothing_is_printed(self):
        printed = io.StringIO()
        with contextlib.redirect_stdout(printed), contextlib.redirect_stderr(printed):
            ask(*EVENING, *TELLING)
        self.assertEqual(printed.getvalue(), "")

    def test_two_hundred_calls(self):
        calls = [START] + [come(i, i % 4) for i in range(30)] + [area(0, 501)] * 169
        self.assertEqual(ask(*calls)[31:], [[sum(501 - i for i in range(30))]] * 169)

    def test_two_hundred_calls_of_stays(self):
        rounds = [as_if(*range(29, -1, -1)), FIRST, LATEST, UNDO, close(500), TOTAL]
        calls = [START] + [come(i, i % 4) for i in range(30)] + [close(500)] + rounds * 28
        squares = sum((500 - i) ** 2 for i in range(30))
        stays = sum(500 - i for i in range(30))
        told = [[stays, 500, squares]] * 3 + [[29], [1], [stays]]
        self.assertEqual(len(calls), 200)
        self.assertEqual(ask(*calls)[32:], told * 28)

    def test_the_longest_list(self):
        calls = [START] + [as_if(*[LARGEST] * 60)] * 199
        self.assertEqual(len(one_list(calls)), 1 + 199 * 62)
        self.assertEqual(ask(*calls), [[0]] + [[-22]] * 199)


class Start(unittest.TestCase):
    def test_before_it_every_other_call_answers_minus_11(self):
        self.assertEqual(sorted({call[0] for call in EVERY_OTHER_CALL}), list(range(1, 20)))
        for call in EVERY_OTHER_CALL:
            self.assertEqual(ask(call), [[-11]])
            self.assertEqual(ask(call, START, THERE), [[-11], [0], [0]])
        self.assertEqual(ask(*EVERY_OTHER_CALL), [[-11]] * len(EVERY_OTHER_CALL))

    def test_minus_11_is_ahead_of_every_other_refusal(self):
        for call in [come(501, 4), leave(501, 4), close(501), present(501), area(2, 1), as_if(0), as_if(5, 5),
                     kind(4), before(501), longer(LARGEST)]:
            self.assertEqual(ask(call), [[-11]])

    def test_a_second_start_behind_any_call(self):
        empty = behind([START], *TELLING, *EVERY_OTHER_CALL)
        for call in EVERY_OTHER_CALL:
            for day in [MORNING, EVENING]:
                self.assertEqual(behind(day + [call, START], *TELLING, *EVERY_OTHER_CALL), empty, call)

    def test_nobody_comes_before_it(self):
        self.assertEqual(ask(come(5, 0), START, THERE, come(0, 0)), [[-11], [0], [0], [1]])

    def test_a_second_start_forgets_all(self):
        again = ask(*MORNING, close(400), START, THERE, KINDS, MOST, BUSY, area(0, 501), come(0, 1), present(0))
        self.assertEqual(
            again[7:], [[0], [0], [4, 0, 0, 0, 0], [0, 0], [0], [0], [1], [1]]
        )

    def test_thirty_more_come_after_a_second_start(self):
        full = [START] + [come(1, 0)] * 30
        self.assertEqual(ask(*full, come(1, 0), *full, come(1, 0))[30:], [[30], [-28], [0]]
                         + [[i] for i in range(1, 31)] + [[-28]])

    def test_a_second_start_while_somebody_is_there(self):
        self.assertEqual(ask(START, come(3, 3), START, leave(3, 3), close(3)), [[0], [1], [0], [-16], [-6]])


class ComeAndGo(unittest.TestCase):
    def test_how_many_are_there(self):
        self.assertEqual(ask(*MORNING), [[0], [1], [2], [3], [2], [3]])

    def test_close_tells_how_many_went(self):
        told = ask(*MORNING, close(30), THERE, KINDS, close(30))
        self.assertEqual(told[6:], [[3], [0], [4, 0, 0, 0, 0], [-6]])

    def test_out_counts_those_of_every_kind(self):
        self.assertEqual(last(START, come(1, 0), come(1, 1), come(1, 1), leave(2, 1)), [2])

    def test_who_comes_after_all_went(self):
        self.assertEqual(last(*MORNING, close(30), come(30, 1)), [1])
        self.assertEqual(last(*MORNING, close(30), come(30, 1), present(30)), [1])

    def test_the_minute_before_the_last_is_refused(self):
        for known in [[come(7, 1)], [come(3, 1), come(3, 1), leave(7, 1)]]:
            day = [START] + known
            for call in [come(6, 1), leave(6, 1), close(6)]:
                self.assertEqual(last(*day, call), [-22])

    def test_the_last_minute_itself_is_taken(self):
        for known in [[come(7, 1)], [come(3, 1), come(3, 1), leave(7, 1)]]:
            day = [START] + known
            self.assertEqual(last(*day, come(7, 1)), [2])
            self.assertEqual(last(*day, leave(7, 1)), [0])
            self.assertEqual(last(*day, close(7)), [1])

    def test_a_close_moves_the_last_minute(self):
        day = [START, come(3, 1), close(9)]
        self.assertEqual(last(*day, come(8, 1)), [-22])
        self.assertEqual(last(*day, come(9, 1)), [1])

    def test_what_is_refused_changes_nothing(self):
        day = [START, come(7, 1)]
        refused = [come(501, 1), come(6, 1), come(9, 4), leave(9, 0), leave(9, 4), leave(501, 1), close(501)]
        told = ask(*day, *refused, KINDS, MOST, BUSY, come(7, 2), present(7))
        self.assertEqual(told[2:9], [[-22], [-22], [-22], [-16], [-22], [-22], [-22]])
        self.assertEqual(told[9:], [[4, 0, 1, 0, 0], [1, 7], [1], [2], [2]])

    def test_a_refused_close_moves_no_minute(self):
        self.assertEqual(ask(START, close(9), come(8, 1)), [[0], [-6], [1]])

    def test_a_refused_thirty_first_moves_no_minute(self):
        day = [START] + [come(1, 0)] * 30
        self.assertEqual(ask(*day, come(9, 0), leave(2, 0))[31:], [[-28], [29]])

    def test_minutes_up_to_500(self):
        self.assertEqual(last(START, come(500, 0)), [1])
        self.assertEqual(last(START, come(501, 0)), [-22])
        self.assertEqual(last(START, come(0, 0), leave(500, 0)), [0])
        self.assertEqual(last(START, come(0, 0), leave(501, 0)), [-22])
        self.assertEqual(last(START, come(0, 0), close(500)), [1])
        self.assertEqual(last(START, come(0, 0), close(501)), [-22])

    def test_kinds_up_to_3(self):
        self.assertEqual(last(START, come(0, 3)), [1])
        self.assertEqual(last(START, come(0, 4)), [-22])
        self.assertEqual(last(START, come(0, 3), leave(0, 3)), [0])
        self.assertEqual(last(START, come(0, 3), leave(0, 4)), [-22])

    def test_thirty_come_and_no_more(self):
        told = ask(START, *[come(i, i % 4) for i in range(31)])
        self.assertEqual(told, [[i] for i in range(31)] + [[-28]])

    def test_thirty_who_came_count_though_they_went(self):
        rounds = [call for i in range(30) for call in (come(i, 0), leave(i, 0))]
        self.assertEqual(ask(START, *rounds)[-2:], [[1], [0]])
        self.assertEqual(last(START, *rounds, come(40, 0)), [-28])

    def test_out_of_a_kind_of_which_nobody_is_there(self):
        self.assertEqual(last(START, leave(0, 0)), [-16])
        day = [START, come(1, 0), come(1, 1), come(1, 3)]
        self.assertEqual(last(*day, leave(1, 2)), [-16])
        self.assertEqual(ask(*day, leave(2, 1), leave(3, 1))[4:], [[2], [-16]])
        self.assertEqual(last(*day, leave(2, 1), come(3, 1), leave(3, 1)), [2])

    def test_close_with_nobody_there(self):
        self.assertEqual(last(START, close(0)), [-6])
        self.assertEqual(last(START, come(1, 0), leave(2, 0), close(2)), [-6])

    def test_the_first_named_refusal_is_answered(self):
        full = [START] + [come(5, 0)] * 30
        for call in [come(4, 0), come(501, 0), come(5, 4)]:
            self.assertEqual(last(*full, call), [-22])
        for call in [leave(4, 1), leave(501, 1), leave(5, 4)]:
            self.assertEqual(last(START, come(5, 0), call), [-22])
        empty = [START, come(5, 0), leave(6, 0)]
        for call in [close(5), close(501), leave(5, 0), leave(6, 4)]:
            self.assertEqual(last(*empty, call), [-22])

    def test_the_largest_numbers(self):
        for call in [come(LARGEST, 0), come(0, LARGEST), come(LARGEST, LARGEST), leave(LARGEST, 0),
                     leave(0, LARGEST), close(LARGEST), present(LARGEST), area(LARGEST, 0), area(0, LARGEST),
                     area(LARGEST, LARGEST)]:
            self.assertEqual(last(START, come(0, 0), call), [-22])


class Sums(unittest.TestCase):
    def test_present_minute_by_minute(self):
        day = MORNING + [close(30)]
        expected = {0: 0, 9: 0, 10: 2, 11: 2, 12: 3, 14: 3, 15: 2, 19: 2, 20: 3, 29: 3, 30: 0, 31: 0, 500: 0}
        for minute, count in expected.items():
            self.assertEqual(last(*day, present(minute)), [count], minute)

    def test_present_up_to_500(self):
        self.assertEqual(ask(*MORNING, present(500), present(501))[6:], [[3], [-22]])
        self.assertEqual(ask(START, present(500), present(501)), [[0], [0], [-22]])

    def test_there_and_kinds(self):
        self.assertEqual(ask(*MORNING, THERE, KINDS)[6:], [[3], [4, 1, 0, 1, 1]])
        day = [START, come(1, 3), come(1, 3), come(2, 1), come(3, 3), leave(3, 3)]
        self.assertEqual(ask(*day, THERE, KINDS)[6:], [[3], [4, 0, 1, 0, 2]])

    def test_most_and_the_first_minute_of_it(self):
        self.assertEqual(last(*MORNING, MOST), [3, 12])
        self.assertEqual(last(*MORNING, come(21, 3), MOST), [4, 21])
        self.assertEqual(last(*MORNING, close(30), MOST), [3, 12])
        self.assertEqual(last(START, come(0, 0), MOST), [1, 0])
        self.assertEqual(last(START, come(500, 0), MOST), [1, 500])

    def test_busy_minutes(self):
        self.assertEqual(last(*MORNING, BUSY), [11])
        self.assertEqual(last(*MORNING, close(30), BUSY), [20])
        self.assertEqual(last(START, come(4, 0), BUSY), [1])
        self.assertEqual(last(START, come(0, 0), leave(500, 0), BUSY), [500])
        self.assertEqual(last(START, come(0, 0), come(500, 0), BUSY), [501])

    def test_minutes_with_nobody_are_not_busy(self):
        self.assertEqual(last(START, come(2, 0), leave(4, 0), come(10, 1), leave(13, 1), BUSY), [5])

    def test_area_from_a_up_to_b(self):
        day = MORNING + [close(30)]
        self.assertEqual(last(*day, area(0, 501)), [2 * 2 + 3 * 3 + 2 * 5 + 3 * 10])
        self.assertEqual(last(*day, area(10, 12)), [4])
        self.assertEqual(last(*day, area(11, 13)), [5])
        self.assertEqual(last(*day, area(14, 15)), [3])
        self.assertEqual(last(*day, area(29, 500)), [3])
        self.assertEqual(last(START, come(500, 0), area(500, 501)), [1])
        self.assertEqual(last(START, come(500, 0), area(0, 500)), [0])

    def test_area_at_its_edges(self):
        for call, answer in [(area(12, 11), -22), (area(12, 12), 0), (area(0, 0), 0), (area(501, 501), 0),
                             (area(501, 500), -22), (area(502, 502), -22), (area(502, 501), -22),
                             (area(0, 502), -22), (area(0, 501), 2 * 2 + 3 * 3 + 2 * 5 + 3 * 481)]:
            self.assertEqual(last(*MORNING, call), [answer], call)

    def test_all_stays_are_all_who_were_there(self):
        stays = (15 + 30 * 3) - (10 + 10 + 12 + 20)
        self.assertEqual(last(*MORNING, close(30), area(0, 501)), [stays])


class Corners(unittest.TestCase):
    def test_who_comes_and_goes_in_one_minute(self):
        day = [START, come(6, 2), leave(6, 2)]
        told = ask(*day, present(6), THERE, KINDS, MOST, BUSY, area(0, 501))
        self.assertEqual(told, [[0], [1], [0], [0], [0], [4, 0, 0, 0, 0], [0, 0], [0], [0]])

    def test_one_in_one_minute_beside_others(self):
        day = [START, come(5, 0), come(6, 2), leave(6, 2), come(8, 1), leave(8, 0)]
        self.assertEqual(ask(*day, present(6), MOST, BUSY, area(5, 9))[6:], [[1], [1, 5], [4], [4]])

    def test_several_at_once(self):
        day = [START, come(6, 2), come(6, 2), come(6, 0), leave(9, 2), leave(9, 0)]
        told = ask(*day, present(5), present(6), present(9), MOST, KINDS, BUSY)
        self.assertEqual(told[6:], [[0], [3], [1], [3, 6], [4, 0, 0, 1, 0], [4]])

    def test_a_kind_of_which_nobody_came(self):
        self.assertEqual(ask(START, come(1, 0), KINDS, leave(1, 3))[2:], [[4, 1, 0, 0, 0], [-16]])

    def test_a_day_without_anybody(self):
        told = ask(START, present(0), THERE, KINDS, MOST, BUSY, area(0, 501), close(0), leave(0, 0))
        self.assertEqual(told, [[0], [0], [0], [4, 0, 0, 0, 0], [0, 0], [0], [0], [-6], [-16]])

    def test_a_minute_behind_the_last(self):
        self.assertEqual(ask(*MORNING, present(21), present(499), area(20, 25), BUSY)[6:], [[3], [3], [15], [11]])


if __name__ == "__main__":
    unittest.main()
