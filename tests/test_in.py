"""Promise 1: mu_in."""

import unittest

from tests.helper import asked, code, last, message, minutes, whole

HIGHEST = 4294967295


class ComingIn(unittest.TestCase):
    def test_answers_what_was_known_before(self):
        rows = asked(
            ("start", 0, 3), ("drill", 0), ("in", 0, 4), ("minutes", 0, 2), ("in", 0, 4),
            ("minutes", 0, 1), ("in", 0, 4), ("where", 0, 4),
        )
        self.assertEqual([rows[2], rows[4], rows[6], rows[7]], [[0], [4], [20], [3, 3]])

    def test_first_number_of_all(self):
        rows = asked(("start", 0, 0), ("drill", 0), ("in", 0, 0), ("tell", 0), ("minutes", 0, 1), ("in", 0, 0))
        self.assertEqual(rows[2:4], [[0], [1] + message(1, {0: 1})])
        self.assertEqual(rows[-1], [1])

    def test_greatest_number_of_all(self):
        calls = [("start", 0, 4), *minutes(0, 100000), ("drill", 0), ("in", 0, 15), ("tell", 0)]
        self.assertEqual(last(*calls), [1] + message(1, {15: 800005}, {4: 100000}))

    def test_persons_0_to_15(self):
        calls = [("start", 0, 0), ("drill", 0)] + [("in", 0, p) for p in range(16)]
        self.assertEqual(asked(*calls)[2:], [[0]] * 16)
        self.assertEqual(last(*calls, ("count", 0)), [16, 65535])

    def test_above_15_is_refused(self):
        for p in (16, 17, 32, HIGHEST, -1):
            calls = [("start", 0, 0), ("drill", 0), ("in", 0, 3)]
            self.assertEqual(last(*calls, ("in", 0, p)), [-2])
            self.assertEqual(whole(calls + [("in", 0, p)], 0), whole(calls, 0))

    def test_no_drill(self):
        for p in (0, 15):
            self.assertEqual(last(("start", 0, 0), ("in", 0, p)), [-6])
        self.assertEqual(asked(("start", 0, 0), ("in", 0, 2), ("drill", 0), ("count", 0))[1:], [[-6], [1], [0, 0]])

    def test_above_15_is_told_ahead_of_no_drill(self):
        self.assertEqual(last(("start", 0, 0), ("in", 0, 16)), [-2])

    def test_again_in_the_same_minute_at_the_same_station(self):
        calls = [("start", 0, 2), ("minutes", 0, 8), ("drill", 0), ("in", 0, 6)]
        self.assertEqual(last(*calls, ("in", 0, 6)), [-17])
        self.assertEqual(whole(calls + [("in", 0, 6)], 0), whole(calls, 0))

    def in_elsewhere(self, me, minute, number):
        return [("start", 0, me), *minutes(0, minute), ("hear", 0, message(1, {6: number})), ("in", 0, 6)]

    def test_in_the_same_minute_at_a_station_with_a_greater_number(self):
        calls = self.in_elsewhere(2, 8, code(8, 1))
        self.assertEqual(last(*calls), [code(8, 1)])
        self.assertEqual(last(*calls, ("where", 0, 6)), [2, 8])

    def test_in_the_same_minute_at_a_station_with_a_smaller_number(self):
        calls = self.in_elsewhere(2, 8, code(8, 3))
        self.assertEqual(last(*calls), [-17])
        self.assertEqual(last(*calls, ("where", 0, 6)), [3, 8])

    def test_known_from_a_later_minute(self):
        calls = self.in_elsewhere(4, 8, code(9, 0))
        self.assertEqual(last(*calls), [-17])
        self.assertEqual(last(*calls, ("where", 0, 6)), [0, 9])

    def test_later_again_at_a_smaller_number(self):
        calls = self.in_elsewhere(0, 9, code(8, 4))
        self.assertEqual(last(*calls), [code(8, 4)])
        self.assertEqual(last(*calls, ("where", 0, 6)), [0, 9])

    def test_only_that_person_is_touched(self):
        calls = [("start", 0, 1), ("drill", 0), ("in", 0, 4), ("minutes", 0, 3), ("in", 0, 5), ("tell", 0)]
        self.assertEqual(last(*calls), [2] + message(1, {4: 2, 5: 26}, {1: 3}))


if __name__ == "__main__":
    unittest.main()
