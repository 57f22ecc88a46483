"""What is promised of total, mean, first, latest, as, kind, before, longer and state."""

import unittest

from asking import (
    BUSY, FIRST, KINDS, LARGEST, LATEST, MEAN, MORNING, MOST, START, STATE, THERE, TOTAL, area, as_if, ask, before,
    behind, close, come, kind, last, leave, longer,
)

# Came 10 10 12 20, went 15 30 30 30.
EVENING = MORNING + [close(30)]
# Came 1 4, went 6 9: stays of 5 5, or of 2 8.
TWO = [START, come(1, 0), come(4, 1), leave(6, 0), leave(9, 1)]
FULL = [START] + [come(i, i % 4) for i in range(30)] + [close(100)]


class TotalAndMean(unittest.TestCase):
    def test_all_stays(self):
        self.assertEqual(last(*EVENING, TOTAL), [105 - 52])
        self.assertEqual(last(*TWO, TOTAL), [10])
        self.assertEqual(last(START, come(0, 3), leave(500, 3), TOTAL), [500])

    def test_mean_without_a_common_divisor(self):
        self.assertEqual(last(*EVENING, MEAN), [0, 53, 4])
        self.assertEqual(last(*TWO, MEAN), [0, 5, 1])
        self.assertEqual(last(START, come(0, 0), come(0, 0), come(2, 0), come(2, 0), close(3), MEAN), [0, 2, 1])
        self.assertEqual(last(START, *[come(0, 0)] * 5, come(4, 0), close(4), MEAN), [0, 10, 3])

    def test_mean_of_fewer_minutes_than_went(self):
        day = [START, come(1, 0), come(1, 0), come(1, 0), leave(1, 0)]
        self.assertEqual(last(*day, leave(1, 0), leave(2, 0), MEAN), [0, 1, 3])
        self.assertEqual(last(*day, come(2, 0), leave(2, 0), close(2), MEAN), [0, 1, 2])

    def test_mean_of_stays_of_0(self):
        self.assertEqual(last(START, come(7, 0), leave(7, 0), MEAN), [0, 0, 1])
        self.assertEqual(last(START, come(7, 0), come(7, 1), come(7, 1), close(7), MEAN), [0, 0, 1])

    def test_mean_of_thirty(self):
        self.assertEqual(behind(FULL, TOTAL, MEAN), [[3000 - 435], [0, 171, 2]])

    def test_somebody_is_there(self):
        self.assertEqual(behind(MORNING, TOTAL, MEAN), [[-16], [-16]])
        self.assertEqual(ask(START, come(0, 0), TOTAL, MEAN)[2:], [[-16], [-16]])
        self.assertEqual(behind(EVENING, come(30, 0), TOTAL, MEAN), [[1], [-16], [-16]])
        self.assertEqual(behind(EVENING, come(30, 0), leave(33, 0), TOTAL, MEAN)[2:], [[56], [0, 56, 5]])

    def test_nobody_has_gone(self):
        self.assertEqual(ask(START, TOTAL, MEAN)[1:], [[0], [-6]])

    def test_somebody_there_is_named_ahead_of_nobody_gone(self):
        self.assertEqual(last(START, come(3, 3), MEAN), [-16])


class OneKind(unittest.TestCase):
    def test_how_many_and_their_stays(self):
        self.assertEqual(behind(EVENING, kind(0), kind(1), kind(2), kind(3)), [[2, 23], [0, 0], [1, 20], [1, 10]])

    def test_only_its_own_are_asked_for(self):
        self.assertEqual(behind(MORNING, kind(0), kind(1), kind(2), kind(3)), [[-16], [0, 0], [-16], [-16]])
        self.assertEqual(behind(MORNING, leave(21, 0), kind(0), kind(2)), [[2], [2, 14], [-16]])

    def test_kinds_up_to_3(self):
        self.assertEqual(behind(EVENING, kind(4), kind(LARGEST)), [[-22], [-22]])
        self.assertEqual(ask(START, kind(3), kind(4))[1:], [[0, 0], [-22]])

    def test_a_wrong_kind_while_somebody_is_there(self):
        self.assertEqual(last(START, come(0, 3), kind(4)), [-22])

    def test_kinds_make_the_whole(self):
        told = behind(FULL, kind(0), kind(1), kind(2), kind(3), TOTAL)
        self.assertEqual([told[0][0], told[1][0], told[2][0], told[3][0]], [8, 8, 7, 7])
        self.assertEqual(sum(answer[1] for answer in told[:4]), told[4][0])


class BeforeAMinute(unittest.TestCase):
    def test_how_many_came_and_how_many_went(self):
        expected = {0: [0, 0], 9: [0, 0], 10: [2, 0], 11: [2, 0], 12: [3, 0], 14: [3, 0], 15: [3, 1], 19: [3, 1],
                    20: [4, 1], 29: [4, 1], 30: [4, 4], 31: [4, 4], 499: [4, 4], 500: [4, 4]}
        for minute, counts in expected.items():
            self.assertEqual(last(*EVENING, before(minute)), counts, minute)

    def test_minutes_up_to_500(self):
        self.assertEqual(ask(START, before(500), before(501), before(LARGEST))[1:], [[0, 0], [-22], [-22]])
        self.assertEqual(last(START, come(500, 0), before(500)), [1, 0])
        self.assertEqual(last(START, come(500, 0), before(499)), [0, 0])

    def test_who_comes_and_goes_in_one_minute_has_done_both(self):
        self.assertEqual(behind([START, come(6, 2), leave(6, 2)], before(5), before(6)), [[0, 0], [1, 1]])


class FirstAndLatest(unittest.TestCase):
    def test_the_first_goes_first(self):
        self.assertEqual(last(*EVENING, FIRST), [53, 20, 5 * 5 + 20 * 20 + 18 * 18 + 10 * 10])
        self.assertEqual(last(*TWO, FIRST), [10, 5, 50])

    def test_the_last_goes_first(self):
        self.assertEqual(last(*EVENING, LATEST), [53, 20, 3 * 3 + 10 * 10 + 20 * 20 + 20 * 20])
        self.assertEqual(last(*TWO, LATEST), [10, 8, 4 + 64])

    def test_of_those_who_have_gone_alone(self):
        self.assertEqual(behind(MORNING, FIRST, LATEST), [[5, 5, 25], [3, 3, 9]])
        self.assertEqual(behind(TWO[:4], FIRST, LATEST), [[5, 5, 25], [2, 2, 4]])

    def test_kinds_do_not_tell_who_goes(self):
        day = [START, come(1, 0), come(4, 1), leave(6, 1), leave(9, 0)]
        self.assertEqual(behind(day, FIRST, LATEST), [[10, 5, 50], [10, 8, 68]])

    def test_somebody_comes_between_two_who_go(self):
        day = [START, come(1, 0), come(2, 0), leave(4, 0), come(7, 0), leave(9, 0)]
        self.assertEqual(behind(day, FIRST, LATEST), [[10, 7, 9 + 49], [4, 2, 4 + 4]])
        self.assertEqual(behind(day, leave(11, 0), FIRST, LATEST)[1:], [[14, 7, 9 + 49 + 16], [14, 10, 4 + 4 + 100]])

    def test_somebody_comes_in_the_very_minute_at_which_somebody_goes(self):
        for noted in [[come(5, 0), leave(5, 0)], [leave(5, 0), come(5, 0)]]:
            day = [START, come(3, 0)] + noted
            self.assertEqual(behind(day, FIRST, LATEST), [[2, 2, 4], [0, 0, 0]])
            self.assertEqual(behind(day, leave(8, 0), FIRST, LATEST)[1:], [[5, 3, 4 + 9], [5, 5, 25]])

    def test_several_come_behind_one_who_goes_in_one_minute(self):
        day = [START, come(3, 0), leave(5, 0), come(5, 1), come(5, 2), close(9)]
        self.assertEqual(behind(day, FIRST, LATEST), [[10, 4, 4 + 16 + 16], [10, 6, 16 + 36]])

    def test_who_comes_a_minute_later_has_not_come(self):
        day = [START, come(3, 0), leave(5, 0), come(6, 0)]
        self.assertEqual(behind(day, FIRST, LATEST), [[2, 2, 4], [2, 2, 4]])

    def test_several_at_once(self):
        day = [START, come(2, 0), come(2, 1), come(5, 2), close(6)]
        self.assertEqual(behind(day, FIRST, LATEST), [[9, 4, 33], [9, 4, 33]])

    def test_nobody_went(self):
        self.assertEqual(ask(START, FIRST, LATEST)[1:], [[0, 0, 0], [0, 0, 0]])
        self.assertEqual(ask(START, come(1, 0), FIRST, LATEST)[2:], [[0, 0, 0], [0, 0, 0]])

    def test_stays_of_0(self):
        self.assertEqual(behind([START, come(6, 2), leave(6, 2)], FIRST, LATEST), [[0, 0, 0], [0, 0, 0]])

    def test_the_largest_stays(self):
        day = [START] + [come(0, 0)] * 30 + [close(500)]
        self.assertEqual(behind(day, FIRST, LATEST, TOTAL, MEAN),
                         [[15000, 500, 7500000], [15000, 500, 7500000], [15000], [0, 500, 1]])


class GoneSo(unittest.TestCase):
    def test_places_in_the_order_of_those_who_go(self):
        self.assertEqual(last(*TWO, as_if(0, 1)), [10, 5, 50])
        self.assertEqual(last(*TWO, as_if(1, 0)), [10, 8, 68])
        self.assertEqual(last(*EVENING, as_if(0, 3, 2, 1)), [53, 20, 25 + 100 + 18 * 18 + 400])
        self.assertEqual(last(*EVENING, as_if(2, 3, 0, 1)), last(*EVENING, LATEST))

    def test_with_somebody_still_there(self):
        self.assertEqual(behind(MORNING, as_if(0), as_if(1), as_if(2)), [[5, 5, 25], [5, 5, 25], [3, 3, 9]])

    def test_kinds_do_not_tell_who_goes(self):
        self.assertEqual(last(START, come(1, 0), come(4, 1), leave(6, 1), as_if(0)), [5, 5, 25])

    def test_no_places(self):
        self.assertEqual(ask(START, as_if())[1:], [[0, 0, 0]])
        self.assertEqual(last(START, come(1, 0), as_if()), [0, 0, 0])
        self.assertEqual(behind(TWO, as_if()), [[-22]])

    def test_too_few_and_too_many(self):
        self.assertEqual(behind(TWO, as_if(0), as_if(1), as_if(0, 1, 2)), [[-22]] * 3)
        self.assertEqual(behind(MORNING, as_if(0, 1), as_if(0, 1, 2, 3)), [[-22]] * 2)
        self.assertEqual(ask(START, as_if(0))[1:], [[-22]])
        self.assertEqual(last(START, come(1, 0), as_if(0)), [-22])

    def test_one_place_twice(self):
        self.assertEqual(behind(TWO, as_if(0, 0), as_if(1, 1)), [[-22]] * 2)
        self.assertEqual(behind(EVENING, as_if(0, 1, 2, 0), as_if(0, 3, 2, 3)), [[-22]] * 2)

    def test_a_place_of_nobody(self):
        self.assertEqual(behind(TWO, as_if(0, 2), as_if(2, 0), as_if(0, LARGEST)), [[-22]] * 3)
        self.assertEqual(behind(MORNING, as_if(4), as_if(LARGEST)), [[-22]] * 2)

    def test_one_who_had_not_come_by_then(self):
        self.assertEqual(behind(MORNING, as_if(3)), [[-22]])
        self.assertEqual(behind(EVENING, as_if(3, 0, 1, 2)), [[-22]])
        day = [START, come(1, 0), leave(3, 0), come(4, 0), leave(5, 0)]
        self.assertEqual(behind(day, as_if(1, 0), as_if(0, 1)), [[-22], [3, 2, 5]])

    def test_one_who_came_later_in_the_very_minute(self):
        day = [START, come(1, 0), leave(4, 0), come(4, 0), leave(5, 0)]
        self.assertEqual(behind(day, as_if(1, 0), as_if(0, 1)), [[4, 4, 16], [4, 3, 10]])

    def test_sixty_places(self):
        for day in [[START], MORNING, EVENING, FULL]:
            self.assertEqual(behind(day, as_if(*range(60)), as_if(*[0] * 60), THERE)[:2], [[-22]] * 2)

    def test_thirty_places(self):
        squares = sum((100 - i) ** 2 for i in range(30))
        told = behind(FULL, as_if(*range(29, -1, -1)), as_if(*range(29)), as_if(*range(31)), as_if(*range(1, 31)))
        self.assertEqual(told, [[2565, 100, squares], [-22], [-22], [-22]])

    def test_nothing_is_changed_by_it(self):
        told = behind(TWO, as_if(1, 0), as_if(5, 5), FIRST, LATEST, as_if(0, 1), STATE, KINDS)
        self.assertEqual(told[2:], [[10, 5, 50], [10, 8, 68], [10, 5, 50], [2, 2, 9], [4, 0, 0, 0, 0]])


class Longer(unittest.TestCase):
    def test_longer_than_so_many_minutes(self):
        expected = {0: 4, 4: 4, 5: 3, 9: 3, 10: 2, 17: 2, 18: 1, 19: 1, 20: 0, 500: 0, 501: 0, LARGEST: 0}
        for minutes, count in expected.items():
            self.assertEqual(last(*EVENING, longer(minutes)), [count], minutes)

    def test_if_the_first_goes_first(self):
        self.assertEqual(behind(TWO, longer(2), longer(4), longer(5), longer(7)), [[2], [2], [0], [0]])

    def test_of_those_who_have_gone_alone(self):
        self.assertEqual(behind(MORNING, longer(0), longer(4), longer(5)), [[1], [1], [0]])

    def test_nobody_and_stays_of_0(self):
        self.assertEqual(ask(START, longer(0))[1:], [[0]])
        self.assertEqual(last(START, come(6, 2), leave(6, 2), longer(0)), [0])


class State(unittest.TestCase):
    def test_came_gone_and_the_last_minute(self):
        self.assertEqual(ask(START, STATE)[1:], [[0, 0, 0]])
        self.assertEqual(behind(MORNING, STATE), [[4, 1, 20]])
        self.assertEqual(behind(EVENING, STATE), [[4, 4, 30]])
        self.assertEqual(behind(MORNING[:5], STATE), [[3, 1, 15]])
        self.assertEqual(last(START, come(500, 0), STATE), [1, 0, 500])
        self.assertEqual(last(START, come(0, 0), leave(0, 0), STATE), [1, 1, 0])

    def test_what_is_refused_moves_nothing(self):
        refused = [come(29, 0), come(31, 4), leave(31, 0), close(31), come(501, 0), as_if(9)]
        self.assertEqual(behind(EVENING, *refused, STATE)[-1], [4, 4, 30])

    def test_thirty(self):
        self.assertEqual(behind(FULL, come(101, 0), STATE), [[-28], [30, 30, 100]])


class NothingIsChangedByAsking(unittest.TestCase):
    def test_any_call_twice(self):
        asked = [TOTAL, MEAN, FIRST, LATEST, as_if(1, 0), kind(1), before(6), longer(4), STATE, THERE, KINDS, MOST,
                 BUSY, area(0, 501)]
        once = [last(*TWO, call) for call in asked]
        self.assertEqual(behind(TWO, *asked, *reversed(asked)), once + once[::-1])


if __name__ == "__main__":
    unittest.main()
