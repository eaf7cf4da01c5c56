"""Promise 4: mu_last, mu_which, mu_state."""

import unittest

from tests.helper import asked, code, last, message, minutes, whole


class Last(unittest.TestCase):
    def of(self, persons):
        return last(("start", 0, 2), ("hear", 0, message(1, persons)), ("last", 0))

    def test_nobody_in(self):
        self.assertEqual(last(("start", 0, 0), ("last", 0)), [-6])
        self.assertEqual(last(("start", 0, 0), ("drill", 0), ("last", 0)), [-6])
        self.assertEqual(self.of({}), [-6])

    def test_nobody_in_the_new_drill(self):
        calls = [("start", 0, 0), ("drill", 0), ("in", 0, 4)]
        self.assertEqual(last(*calls, ("drill", 0), ("last", 0)), [-6])
        self.assertEqual(last(*calls, ("hear", 0, message(2)), ("last", 0)), [-6])

    def test_one(self):
        for p in range(16):
            for minute, station in ((0, 0), (0, 4), (1, 0), (7, 3), (99999, 1), (100000, 4)):
                self.assertEqual(self.of({p: code(minute, station)}), [p, minute, station])

    def test_one_that_came_in_here(self):
        calls = [("start", 0, 3), ("minutes", 0, 17), ("drill", 0), ("in", 0, 11), ("minutes", 0, 1), ("last", 0)]
        self.assertEqual(last(*calls), [11, 17, 3])

    def test_the_later_minute_wins_over_station_and_person(self):
        self.assertEqual(self.of({0: code(9, 0), 1: code(8, 4), 15: code(8, 4)}), [0, 9, 0])
        self.assertEqual(self.of({0: code(8, 4), 7: code(9, 0), 15: code(8, 4)}), [7, 9, 0])

    def test_of_like_minutes_the_greater_station_wins_over_the_person(self):
        self.assertEqual(self.of({0: code(9, 3), 1: code(9, 0), 15: code(9, 2)}), [0, 9, 3])
        self.assertEqual(self.of({p: code(9, 4 - p) for p in range(5)}), [0, 9, 4])
        self.assertEqual(self.of({p: code(9, p) for p in range(5)}), [4, 9, 4])

    def test_of_like_minutes_and_stations_the_greater_person(self):
        self.assertEqual(self.of({0: code(9, 3), 1: code(9, 3)}), [1, 9, 3])
        self.assertEqual(self.of({2: code(9, 3), 6: code(9, 3), 7: code(9, 2), 15: code(8, 4)}), [6, 9, 3])
        self.assertEqual(self.of({p: code(0, 0) for p in range(16)}), [15, 0, 0])

    def test_whoever_comes_in_again_is_last_again(self):
        calls = [("start", 0, 1), ("drill", 0), ("in", 0, 2), ("in", 0, 3), ("minutes", 0, 1), ("in", 0, 2)]
        rows = asked(*calls[:4], ("last", 0), *calls[4:], ("last", 0))
        self.assertEqual([rows[4], rows[-1]], [[3, 0, 1], [2, 1, 1]])


class Which(unittest.TestCase):
    def test_ahead_of_a_drill(self):
        self.assertEqual(last(("start", 0, 0), ("minutes", 0, 4), ("which", 0)), [-6])

    def test_behind_mu_drill(self):
        rows = asked(("start", 0, 0), ("drill", 0), ("which", 0), ("drill", 0), ("which", 0))
        self.assertEqual([rows[2], rows[4]], [[1], [2]])

    def test_behind_messages(self):
        calls = [("start", 0, 0), ("hear", 0, message(7))]
        self.assertEqual(last(*calls, ("which", 0)), [7])
        for drill, expected in ((6, 7), (7, 7), (8, 8), (1000, 1000), (0, 7), (1001, 7)):
            self.assertEqual(last(*calls, ("hear", 0, message(drill)), ("which", 0)), [expected])

    def test_the_last_drill_of_all(self):
        calls = [("start", 0, 0), ("hear", 0, message(999)), ("drill", 0), ("drill", 0), ("which", 0)]
        self.assertEqual(asked(*calls)[-2:], [[-28], [1000]])

    def test_behind_a_start_again(self):
        self.assertEqual(last(("start", 0, 0), ("drill", 0), ("start", 0, 0), ("which", 0)), [-6])


class State(unittest.TestCase):
    def base(self):
        """Station 3, drill 2, four messages heard, minute 50."""
        told = [message(1, {5: 1}), message(2), message(2), message(1)]
        return [("start", 0, 3), ("minutes", 0, 50)] + [("hear", 0, one) for one in told]

    def test_its_numbers_in_order(self):
        self.assertEqual(last(*self.base(), ("state", 0)), [50, 3, 2, 4])

    def test_new(self):
        for me in range(5):
            self.assertEqual(last(("start", 0, me), ("state", 0)), [0, me, 0, 0])

    def test_the_object_is_not_the_station(self):
        for station in range(3):
            self.assertEqual(last(("start", station, 4), ("state", station)), [0, 4, 0, 0])

    def test_minute_and_drill_go_on(self):
        calls = [("start", 0, 1), *minutes(0, 100000), ("hear", 0, message(999)), ("drill", 0), ("state", 0)]
        self.assertEqual(last(*calls), [100000, 1, 1000, 1])

    def test_good_messages_of_any_drill_are_counted(self):
        for drill in (1, 2, 3, 1000):
            told = message(drill, {4: 9}, {0: 3})
            self.assertEqual(last(*self.base(), ("hear", 0, told), ("state", 0))[3], 5)
            self.assertEqual(last(*self.base(), ("hear", 0, told), ("hear", 0, told), ("state", 0))[3], 6)

    def test_messages_that_are_not_good_are_not_counted(self):
        for told in (message(0), message(1001), message(2, {3: 6}), message(1, {}, {4: 100001})):
            self.assertEqual(asked(*self.base(), ("hear", 0, told), ("state", 0))[-2:], [[-71], [50, 3, 2, 4]])

    def test_messages_asked_with_mu_new_are_not_counted(self):
        for drill in (1, 2, 3):
            told = message(drill, {4: 9})
            self.assertEqual(last(*self.base(), ("new", 0, told), ("new", 0, told), ("state", 0)), [50, 3, 2, 4])

    def test_a_drill_does_not_begin_the_count_anew(self):
        self.assertEqual(last(*self.base(), ("drill", 0), ("state", 0)), [50, 3, 3, 4])
        self.assertEqual(last(*self.base(), ("hear", 0, message(9)), ("state", 0)), [50, 3, 9, 5])

    def test_behind_a_start_again(self):
        self.assertEqual(last(*self.base(), ("start", 0, 3), ("state", 0)), [0, 3, 0, 0])
        self.assertEqual(last(*self.base(), ("start", 0, 0), ("state", 0)), [0, 0, 0, 0])
        self.assertEqual(last(*self.base(), ("start", 0, 5), ("state", 0)), [50, 3, 2, 4])

    def test_telling_and_coming_in_are_not_heard(self):
        self.assertEqual(last(*self.base(), ("tell", 0), ("in", 0, 2), ("state", 0)), [50, 3, 2, 4])


class Asking(unittest.TestCase):
    def test_asking_changes_nothing(self):
        calls = [("start", 0, 2), ("minutes", 0, 3), ("hear", 0, message(2, {1: code(1, 1)}, {1: 2})), ("in", 0, 0)]
        for ahead in (calls, calls[:2]):
            for question in (("last", 0), ("which", 0), ("state", 0)):
                self.assertEqual(whole(ahead + [question], 0), whole(ahead, 0))


if __name__ == "__main__":
    unittest.main()
