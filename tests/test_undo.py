"""What is promised of undo, and of every other call behind it."""

import unittest

from asking import (
    BUSY, FIRST, KINDS, LATEST, MEAN, MORNING, MOST, START, STATE, THERE, TOTAL, UNDO, area, as_if, ask, before,
    behind, close, come, kind, last, leave, longer, present,
)

# Came 10 10 12 20, of kinds 0 2 0 3, went 15 30 30 30, of kinds 0 0 2 3.
EVENING = MORNING + [close(30)]
ASKED = [THERE, KINDS, MOST, BUSY, STATE, TOTAL, MEAN, FIRST, LATEST, as_if(), as_if(0), kind(0), kind(3), before(30),
         longer(3), present(30), area(0, 501)]


class Undo(unittest.TestCase):
    def test_nobody_has_gone(self):
        self.assertEqual(ask(START, UNDO)[1:], [[-6]])
        self.assertEqual(ask(START, come(3, 0), UNDO, THERE, STATE)[2:], [[-6], [1], [1, 0, 3]])

    def test_how_many_have_gone(self):
        self.assertEqual(behind(MORNING, UNDO), [[0]])
        self.assertEqual(behind(MORNING, leave(21, 0), leave(22, 2), UNDO), [[2], [1], [2]])

    def test_behind_an_out_all_is_as_ahead_of_it(self):
        ahead = [START, come(1, 0), come(2, 3), leave(3, 3), come(4, 0)]
        self.assertEqual(behind(ahead + [leave(30, 0), UNDO], *ASKED), behind(ahead, *ASKED))

    def test_behind_a_close_only_the_last_one_is_back(self):
        told = behind(EVENING, UNDO, THERE, KINDS, STATE, present(30), before(30))
        self.assertEqual(told, [[3], [1], [4, 0, 0, 0, 1], [4, 3, 30], [1], [4, 3]])

    def test_kinds_come_back_in_the_other_order(self):
        told = behind(EVENING, UNDO, KINDS, UNDO, KINDS, UNDO, KINDS, UNDO, KINDS, UNDO, KINDS)
        self.assertEqual(told[0::2], [[3], [2], [1], [0], [-6]])
        self.assertEqual(told[1::2], [[4, 0, 0, 0, 1], [4, 0, 0, 1, 1], [4, 1, 0, 1, 1], [4, 2, 0, 1, 1],
                                      [4, 2, 0, 1, 1]])

    def test_a_close_of_one_kind_after_another(self):
        day = [START, come(1, 3), come(1, 0), come(1, 3), come(2, 1), close(5)]
        told = behind(day, UNDO, KINDS, UNDO, KINDS, UNDO, KINDS, UNDO, KINDS)
        self.assertEqual(told, [[3], [4, 0, 0, 0, 1], [2], [4, 0, 0, 0, 2], [1], [4, 0, 1, 0, 2], [0],
                                [4, 1, 1, 0, 2]])

    def test_until_nobody_has_gone(self):
        day = EVENING + [UNDO] * 4
        came = [call for call in MORNING if call[0] < 2]
        self.assertEqual(behind(day, *ASKED), behind(came, *ASKED))
        self.assertEqual(behind(day, UNDO, STATE), [[-6], [4, 0, 20]])

    def test_who_came_since_came(self):
        day = [START, come(1, 0), leave(3, 0), come(5, 1), UNDO]
        self.assertEqual(behind(day, THERE, KINDS, STATE), [[2], [4, 1, 1, 0, 0], [2, 0, 5]])
        self.assertEqual(behind(day, UNDO, MOST, BUSY), [[-6], [2, 5], [5]])

    def test_somebody_comes_between_two_undos(self):
        told = behind(EVENING, UNDO, come(30, 1), UNDO, come(33, 2), UNDO, STATE, KINDS, FIRST, LATEST, UNDO, UNDO)
        self.assertEqual(told, [[3], [2], [2], [4], [1], [6, 1, 33], [4, 1, 1, 2, 1], [5, 5, 25], [3, 3, 9], [0],
                                [-6]])

    def test_a_second_start_leaves_nothing_to_undo(self):
        self.assertEqual(behind(EVENING, START, UNDO, come(2, 0), leave(2, 0), UNDO, UNDO),
                         [[0], [-6], [1], [0], [0], [-6]])


class TheLastMinuteBehindIt(unittest.TestCase):
    def test_it_goes_back(self):
        day = [START, come(1, 0), come(1, 0), leave(3, 0), leave(9, 0)]
        self.assertEqual(behind(day, STATE, UNDO, STATE, UNDO, STATE), [[2, 2, 9], [1], [2, 1, 3], [0], [2, 0, 1]])

    def test_what_was_refused_is_taken(self):
        day = [START, come(1, 0), come(1, 1), leave(3, 0), leave(9, 1)]
        for call in [come(3, 2), leave(3, 1), close(3), come(8, 2)]:
            self.assertEqual(last(*day, call), [-22])
            self.assertNotEqual(last(*day, UNDO, call), [-22])
        for call in [come(2, 2), leave(2, 1), close(2)]:
            self.assertEqual(last(*day, UNDO, call), [-22])

    def test_it_stays_where_others_went_in_that_minute(self):
        told = behind(EVENING, UNDO, UNDO, come(29, 0), UNDO, come(29, 0))
        self.assertEqual(told, [[3], [2], [-22], [1], [4]])

    def test_it_stays_where_somebody_came_since(self):
        day = [START, come(1, 0), leave(3, 0), come(5, 1), UNDO]
        self.assertEqual(behind(day, come(4, 0), leave(4, 0), close(4), leave(5, 0)), [[-22], [-22], [-22], [1]])


class TheNotesBehindIt(unittest.TestCase):
    def test_one_who_is_back_goes_again(self):
        day = EVENING + [UNDO, leave(40, 3)]
        self.assertEqual(behind(day, STATE, KINDS, TOTAL, kind(3)), [[4, 4, 40], [4, 0, 0, 0, 0], [63], [1, 20]])
        self.assertEqual(last(*EVENING, UNDO, leave(40, 0)), [-16])

    def test_close_lets_go_who_is_back(self):
        self.assertEqual(behind(EVENING, UNDO, UNDO, close(35), STATE, close(35)),
                         [[3], [2], [2], [4, 4, 35], [-6]])

    def test_somebody_there_again(self):
        told = behind(EVENING, UNDO, TOTAL, MEAN, kind(0), kind(2), kind(3))
        self.assertEqual(told, [[3], [-16], [-16], [2, 23], [1, 20], [-16]])

    def test_thirty_who_came_stay_thirty(self):
        day = [START] + [come(1, 0)] * 30 + [leave(2, 0), UNDO]
        self.assertEqual(behind(day, come(2, 0), STATE, THERE), [[-28], [30, 0, 1], [30]])

    def test_in_behind_it(self):
        self.assertEqual(behind(EVENING, UNDO, come(30, 1), THERE, KINDS), [[3], [2], [2], [4, 0, 1, 0, 1]])


class TheSumsBehindIt(unittest.TestCase):
    def test_most_and_busy(self):
        day = [START, come(2, 0), leave(6, 0), come(8, 1)]
        self.assertEqual(behind(day, MOST, BUSY, UNDO, MOST, BUSY), [[1, 2], [5], [0], [2, 8], [7]])
        day = [START, come(2, 0), leave(6, 0)]
        self.assertEqual(behind(day, MOST, BUSY, UNDO, MOST, BUSY), [[1, 2], [4], [0], [1, 2], [1]])

    def test_present_area_and_before(self):
        day = [START, come(2, 0), leave(6, 0)]
        self.assertEqual(behind(day, present(6), area(0, 10), before(6), UNDO, present(6), area(0, 10), before(6)),
                         [[0], [4], [1, 1], [0], [1], [8], [1, 0]])

    def test_first_latest_longer_and_as(self):
        day = [START, come(1, 0), come(2, 0), leave(4, 0), leave(9, 0)]
        self.assertEqual(behind(day, FIRST, LATEST, longer(2), as_if(1, 0)),
                         [[10, 7, 58], [10, 8, 68], [2], [10, 8, 68]])
        self.assertEqual(behind(day, UNDO, FIRST, LATEST, longer(2), as_if(1, 0), as_if(1), as_if()),
                         [[1], [3, 3, 9], [2, 2, 4], [1], [-22], [2, 2, 4], [-22]])

    def test_who_came_since_is_among_those_who_go_next(self):
        day = [START, come(1, 0), leave(3, 0), come(5, 1), UNDO, leave(7, 0)]
        self.assertEqual(behind(day, FIRST, LATEST, as_if(0), as_if(1)), [[6, 6, 36], [2, 2, 4], [6, 6, 36], [2, 2, 4]])
        self.assertEqual(behind(day, leave(9, 1), FIRST, LATEST, TOTAL)[1:], [[10, 6, 52], [10, 8, 68], [10]])


if __name__ == "__main__":
    unittest.main()
