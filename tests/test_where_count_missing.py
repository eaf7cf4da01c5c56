"""Promise 3: mu_where, mu_count, mu_missing."""

import unittest

from tests.helper import asked, code, last, message, minutes, whole

HIGHEST = 4294967295


class Where(unittest.TestCase):
    def test_minute_and_station(self):
        for station in range(5):
            for minute in (0, 1, 7, 8, 99999, 100000):
                rows = asked(("start", 0, 2), ("hear", 0, message(1, {11: code(minute, station)})), ("where", 0, 11))
                self.assertEqual(rows[-1], [station, minute])

    def test_here_in_this_minute(self):
        calls = [("start", 0, 4), *minutes(0, 1500), ("drill", 0), ("in", 0, 15), ("where", 0, 15)]
        self.assertEqual(last(*calls), [4, 1500])

    def test_nothing_known(self):
        calls = [("start", 0, 0), ("drill", 0), ("in", 0, 3)]
        for p in range(16):
            self.assertEqual(last(*calls, ("where", 0, p)), [0, 0] if p == 3 else [-6])

    def test_no_drill(self):
        for p in range(16):
            self.assertEqual(last(("start", 0, 0), ("where", 0, p)), [-6])

    def test_above_15(self):
        for p in (16, 17, HIGHEST, -1):
            self.assertEqual(last(("start", 0, 0), ("drill", 0), ("in", 0, 15), ("where", 0, p)), [-2])

    def test_above_15_is_told_ahead_of_nothing_known(self):
        self.assertEqual(last(("start", 0, 0), ("where", 0, 16)), [-2])


class CountAndMissing(unittest.TestCase):
    def both(self, persons):
        told = message(1, {p: code(p, p % 5) for p in persons})
        return asked(("start", 0, 0), ("hear", 0, told), ("count", 0), ("missing", 0))[-2:]

    def test_no_drill(self):
        rows = asked(("start", 0, 0), ("count", 0), ("missing", 0))
        self.assertEqual(rows[1:], [[0, 0], [-6]])

    def test_nobody(self):
        self.assertEqual(self.both([]), [[0, 0], [16, 65535]])

    def test_each_alone(self):
        for p in range(16):
            self.assertEqual(self.both([p]), [[1, 2 ** p], [15, 65535 - 2 ** p]])

    def test_some(self):
        self.assertEqual(self.both([0, 1, 5, 15]), [[4, 1 + 2 + 32 + 32768], [12, 65535 - 32803]])

    def test_all(self):
        self.assertEqual(self.both(range(16)), [[16, 65535], [0, 0]])

    def test_all_but_one(self):
        self.assertEqual(self.both(range(1, 16)), [[15, 65534], [1, 1]])

    def test_coming_in_counts_once(self):
        calls = [("start", 0, 0), ("drill", 0), ("in", 0, 2), ("minutes", 0, 1), ("in", 0, 2)]
        self.assertEqual(asked(*calls, ("count", 0), ("missing", 0))[-2:], [[1, 4], [15, 65531]])


class Asking(unittest.TestCase):
    def test_asking_changes_nothing(self):
        calls = [("start", 0, 2), ("minutes", 0, 3), ("hear", 0, message(2, {1: code(1, 1)}, {1: 2})), ("in", 0, 0)]
        questions = [("where", 0, 0), ("where", 0, 5), ("where", 0, 16), ("count", 0), ("missing", 0)]
        self.assertEqual(whole(calls + questions, 0), whole(calls, 0))


if __name__ == "__main__":
    unittest.main()
