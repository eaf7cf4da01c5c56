"""Promise 1: mu_start, mu_minutes, mu_drill."""

import unittest

from tests.helper import asked, code, last, message, minutes, shown, whole

HIGHEST = 4294967295


class Start(unittest.TestCase):
    def test_numbers_0_to_4_are_stations(self):
        for me in range(5):
            self.assertEqual(asked(("start", 0, me)), [[0]])

    def test_above_4_is_refused(self):
        for me in (5, 6, 255, 2 ** 31, HIGHEST):
            self.assertEqual(asked(("start", 0, me)), [[-22]])

    def test_below_0_is_refused(self):
        self.assertEqual(asked(("start", 0, -1)), [[-22]])

    def test_a_new_station_is_in_no_drill_and_knows_nothing(self):
        rows = asked(("start", 0, 4), ("tell", 0), ("count", 0), ("missing", 0), ("where", 0, 0), ("in", 0, 0))
        self.assertEqual(rows, [[0], [-6], [0, 0], [-6], [-6], [-6]])

    def test_me_is_the_number_in_what_is_known_not_the_object(self):
        for me in range(5):
            rows = asked(("start", 2, me), ("drill", 2), ("in", 2, 7), ("where", 2, 7))
            self.assertEqual(rows[-1], [me, 0])

    def test_a_refused_start_leaves_a_new_station_to_be_started(self):
        self.assertEqual(asked(("start", 1, 5), ("start", 1, 4), ("drill", 1)), [[-22], [0], [1]])

    def used(self):
        return [
            ("start", 0, 3), ("minutes", 0, 9), ("drill", 0), ("drill", 0), ("in", 0, 5),
            ("hear", 0, message(2, {6: code(4, 1)}, {1: 8, 2: 7})),
        ]

    def test_a_second_start_makes_all_new(self):
        calls = self.used() + [("start", 0, 2)]
        self.assertEqual(
            asked(*calls, ("tell", 0), ("count", 0), ("missing", 0), ("where", 0, 5), ("where", 0, 6))[len(calls):],
            [[-6], [0, 0], [-6], [-6], [-6]],
        )
        self.assertEqual(last(*calls, ("minutes", 0, 1)), [1])
        self.assertEqual(last(*calls, ("drill", 0)), [1])
        self.assertEqual(last(*calls, ("drill", 0), ("tell", 0)), [0] + message(1))
        self.assertEqual(last(*calls, ("drill", 0), ("in", 0, 5), ("tell", 0)), [1] + message(1, {5: 3}))

    def test_a_second_start_with_the_same_number_makes_all_new_too(self):
        calls = self.used() + [("start", 0, 3), ("drill", 0), ("tell", 0)]
        self.assertEqual(asked(*calls)[-3:], [[0], [1], [0] + message(1)])

    def test_a_second_start_that_is_refused_changes_nothing(self):
        for me in (5, HIGHEST):
            calls = self.used() + [("start", 0, me)]
            self.assertEqual(last(*calls), [-22])
            self.assertEqual(whole(calls, 0), whole(self.used(), 0))
            self.assertEqual(last(*calls, ("minutes", 0, 1)), [10])
            self.assertEqual(last(*calls, ("tell", 0)), [2] + message(
                2, {5: code(9, 3), 6: code(4, 1)}, {1: 8, 2: 7, 3: 9}))


class Minutes(unittest.TestCase):
    def test_answers_which_minute_it_is(self):
        rows = asked(("start", 0, 0), ("minutes", 0, 1), ("minutes", 0, 1440), ("minutes", 0, 7))
        self.assertEqual(rows[1:], [[1], [1441], [1448]])

    def test_not_1_to_1440_is_refused_and_nothing_goes_by(self):
        for n in (0, 1441, 1442, 100000, HIGHEST, -1):
            rows = asked(("start", 0, 0), ("minutes", 0, 5), ("minutes", 0, n), ("minutes", 0, 1))
            self.assertEqual(rows[2:], [[-22], [6]])

    def test_just_to_100000_and_no_further(self):
        calls = [("start", 0, 0)] + minutes(0, 99999)
        self.assertEqual(last(*calls), [99999])
        self.assertEqual(asked(*calls, ("minutes", 0, 1), ("minutes", 0, 1))[-2:], [[100000], [-75]])
        self.assertEqual(asked(*calls, ("minutes", 0, 2), ("minutes", 0, 1))[-2:], [[-75], [100000]])

    def test_just_to_100000_in_one_long_step(self):
        calls = [("start", 0, 0)] + minutes(0, 100000 - 1440)
        self.assertEqual(last(*calls, ("minutes", 0, 1440)), [100000])
        self.assertEqual(last(*calls, ("minutes", 0, 1), ("minutes", 0, 1440)), [-75])

    def test_of_both_refusals_22_is_answered(self):
        calls = [("start", 0, 0)] + minutes(0, 100000)
        rows = asked(*calls, ("minutes", 0, 1440), ("minutes", 0, 1441), ("minutes", 0, HIGHEST), ("minutes", 0, 0))
        self.assertEqual(rows[-4:], [[-75], [-22], [-22], [-22]])

    def test_what_is_known_stays(self):
        rows = asked(("start", 0, 1), ("drill", 0), ("in", 0, 3), ("minutes", 0, 60), ("where", 0, 3), ("count", 0))
        self.assertEqual(rows[-2:], [[1, 0], [1, 8]])


class Drill(unittest.TestCase):
    def test_answers_the_next_drill_each_time(self):
        self.assertEqual(asked(("start", 0, 0), ("drill", 0), ("drill", 0), ("drill", 0))[1:], [[1], [2], [3]])

    def test_up_to_1000_and_then_refused(self):
        rows = asked(("start", 0, 0), *[("drill", 0)] * 999)
        self.assertEqual(rows[1:], [[d] for d in range(1, 1000)])
        heard = [("start", 0, 0), ("hear", 0, message(999))]
        self.assertEqual(asked(*heard, ("drill", 0), ("drill", 0), ("drill", 0))[-3:], [[1000], [-28], [-28]])

    def test_a_refused_drill_changes_nothing(self):
        calls = [("start", 0, 2), ("hear", 0, message(1000, {4: code(3, 1)}, {0: 5})), ("in", 0, 9)]
        self.assertEqual(last(*calls, ("drill", 0)), [-28])
        self.assertEqual(whole(calls + [("drill", 0)], 0), whole(calls, 0))

    def test_nothing_is_known_in_the_new_drill(self):
        calls = [
            ("start", 0, 2), ("minutes", 0, 30), ("drill", 0), ("in", 0, 0), ("in", 0, 15),
            ("hear", 0, message(1, {7: code(20, 4)}, {0: 11, 4: 22})), ("drill", 0),
        ]
        # News of others are gone with the drill; those of itself are the minute now.
        self.assertEqual(shown(calls, 0)[:19], [[0] + message(2, {}, {2: 30}), [0, 0], [16, 65535]] + [[-6]] * 16)

    def test_minutes_go_on_over_drills(self):
        rows = asked(("start", 0, 0), ("minutes", 0, 5), ("drill", 0), ("minutes", 0, 5))
        self.assertEqual(rows[-1], [10])

    def test_one_may_come_in_anew_in_the_same_minute(self):
        rows = asked(("start", 0, 0), ("drill", 0), ("in", 0, 1), ("in", 0, 1), ("drill", 0), ("in", 0, 1))
        self.assertEqual(rows[2:], [[0], [-17], [2], [0]])


if __name__ == "__main__":
    unittest.main()
