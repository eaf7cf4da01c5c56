"""Promise 3: mu_at and mu_sure."""

import unittest

from tests.helper import asked, bits, code, last, message, minutes, whole

HIGHEST = 4294967295
EVERYBODY = 65535


class At(unittest.TestCase):
    def at_each(self, persons, me=0):
        calls = [("start", 0, me), ("hear", 0, message(1, persons))]
        return asked(*calls, *[("at", 0, k) for k in range(5)])[2:]

    def test_stations_0_to_4(self):
        for k in range(5):
            self.assertEqual(last(("start", 0, 0), ("drill", 0), ("at", 0, k)), [0, 0])

    def test_above_4_is_refused(self):
        for k in (5, 6, 255, HIGHEST, -1):
            self.assertEqual(last(("start", 0, 4), ("drill", 0), ("in", 0, 3), ("at", 0, k)), [-2])
            self.assertEqual(last(("start", 0, 4), ("at", 0, k)), [-2])

    def test_ahead_of_any_drill(self):
        for me in range(5):
            rows = asked(("start", 0, me), *[("at", 0, k) for k in range(5)])
            self.assertEqual(rows[1:], [[0, 0]] * 5)

    def test_nobody(self):
        self.assertEqual(self.at_each({}), [[0, 0]] * 5)

    def test_each_person_alone(self):
        for p in range(16):
            for k in range(5):
                expected = [[1, 2 ** p] if station == k else [0, 0] for station in range(5)]
                self.assertEqual(self.at_each({p: code(0, k)}, me=2), expected)
                self.assertEqual(self.at_each({p: code(100000, k)}, me=2), expected)

    def test_some(self):
        persons = {p: code(p, p % 4) for p in range(15)}
        self.assertEqual(self.at_each(persons), [
            [4, bits([0, 4, 8, 12])], [4, bits([1, 5, 9, 13])], [4, bits([2, 6, 10, 14])], [3, bits([3, 7, 11])],
            [0, 0],
        ])

    def test_all_at_one(self):
        for k in range(5):
            expected = [[16, EVERYBODY] if station == k else [0, 0] for station in range(5)]
            self.assertEqual(self.at_each({p: code(3 * p, k) for p in range(16)}), expected)

    def test_who_came_in_here(self):
        calls = [("start", 0, 3), ("minutes", 0, 9), ("drill", 0), ("in", 0, 0), ("in", 0, 15)]
        self.assertEqual(asked(*calls, ("at", 0, 3), ("at", 0, 0))[-2:], [[2, 32769], [0, 0]])

    def test_who_came_in_elsewhere_later_is_there_alone(self):
        calls = [("start", 0, 3), ("drill", 0), ("in", 0, 5), ("in", 0, 6), ("minutes", 0, 2)]
        calls.append(("hear", 0, message(1, {5: code(1, 0)})))
        rows = asked(*calls, *[("at", 0, k) for k in range(5)])[len(calls):]
        self.assertEqual(rows, [[1, 32], [0, 0], [0, 0], [1, 64], [0, 0]])
        calls.append(("in", 0, 5))
        rows = asked(*calls, *[("at", 0, k) for k in range(5)])[len(calls):]
        self.assertEqual(rows, [[0, 0], [0, 0], [0, 0], [2, 96], [0, 0]])

    def test_who_came_in_elsewhere_earlier_stays(self):
        calls = [("start", 0, 3), ("minutes", 0, 2), ("drill", 0), ("in", 0, 5)]
        calls.append(("hear", 0, message(1, {5: code(1, 4)})))
        self.assertEqual(asked(*calls, ("at", 0, 3), ("at", 0, 4))[-2:], [[1, 32], [0, 0]])

    def test_a_new_drill_empties_the_stations(self):
        calls = [("start", 0, 3), ("drill", 0), ("in", 0, 5), ("drill", 0)]
        self.assertEqual(last(*calls, ("at", 0, 3)), [0, 0])


class Sure(unittest.TestCase):
    def base(self):
        """Station 2 in minute 20: news of 0, 1, 3, 4 of minutes 10, 15, 12, 7; persons 0 and 9 in."""
        told = message(1, {0: code(9, 0), 9: code(6, 4)}, {0: 10, 1: 15, 3: 12, 4: 7})
        return [("start", 0, 2), ("minutes", 0, 20), ("hear", 0, told)]

    def sure(self, n, t):
        return last(*self.base(), ("sure", 0, n, t))

    missing = [14, EVERYBODY - bits([0, 9])]

    def test_numbers_of_stations(self):
        for n in (0, 6, 7, HIGHEST, -1):
            self.assertEqual(self.sure(n, 0), [-22])
        for n in range(1, 6):
            self.assertEqual(self.sure(n, 0), self.missing)

    def test_minute_above_100000_is_refused(self):
        for n in range(1, 6):
            self.assertEqual(self.sure(n, 100000), [-13])
            for t in (100001, 100002, HIGHEST, -1):
                self.assertEqual(self.sure(n, t), [-22])

    def test_news_equal_to_the_minute_are_too_early_and_later_by_one_are_not(self):
        # Of the first n stations these are the earliest news.
        for n, earliest in ((1, 10), (2, 10), (3, 10), (4, 10), (5, 7)):
            for t in range(earliest):
                self.assertEqual(self.sure(n, t), self.missing)
            for t in (earliest, earliest + 1, 20, 99999):
                self.assertEqual(self.sure(n, t), [-13])

    def test_each_of_the_first_n_stations_is_looked_at(self):
        for late in range(5):
            news = {k: 8 if k == late else 9 for k in range(5)}
            for n in range(1, 6):
                calls = [("start", 0, late), ("minutes", 0, 8), ("hear", 0, message(1, {}, news))]
                self.assertEqual(last(*calls, ("sure", 0, n, 8)), [-13] if late < n else [16, EVERYBODY])
                self.assertEqual(last(*calls, ("sure", 0, n, 7)), [16, EVERYBODY])
                other = (late + 1) % 5
                calls = [("start", 0, other), ("minutes", 0, 9), ("hear", 0, message(1, {}, news))]
                self.assertEqual(last(*calls, ("sure", 0, n, 8)), [-13] if late < n else [16, EVERYBODY])

    def test_only_the_first_n_are_looked_at(self):
        calls = [("start", 0, 0), ("minutes", 0, 5), ("drill", 0)]
        rows = asked(*calls, *[("sure", 0, n, 4) for n in range(1, 6)])
        self.assertEqual(rows[3:], [[16, EVERYBODY]] + [[-13]] * 4)

    def test_itself_among_them_is_as_late_as_the_minute_now(self):
        calls = [("start", 0, 0), ("drill", 0)]
        self.assertEqual(last(*calls, ("sure", 0, 1, 0)), [-13])
        calls.append(("minutes", 0, 1))
        self.assertEqual(asked(*calls, ("sure", 0, 1, 0), ("sure", 0, 1, 1))[-2:], [[16, EVERYBODY], [-13]])
        # What others tell of it doesn't count.
        calls.append(("hear", 0, message(1, {}, {0: 50})))
        self.assertEqual(last(*calls, ("sure", 0, 1, 1)), [-13])

    def test_itself_not_among_them_is_not_looked_at(self):
        calls = [("start", 0, 4), ("hear", 0, message(1, {}, {0: 30, 1: 30, 2: 30, 3: 30}))]
        rows = asked(*calls, ("sure", 0, 4, 29), ("sure", 0, 4, 30), ("sure", 0, 5, 0))
        self.assertEqual(rows[2:], [[16, EVERYBODY], [-13], [-13]])

    def test_no_drill(self):
        for n in range(1, 6):
            for t in (0, 1, 3, 100000):
                self.assertEqual(last(("start", 0, 0), ("minutes", 0, 3), ("sure", 0, n, t)), [-6])

    def test_of_several_refusals_the_first_told_is_answered(self):
        calls = [("start", 0, 0)]
        for n, t in ((0, 0), (6, 0), (1, 100001), (0, 100001)):
            self.assertEqual(last(*calls, ("sure", 0, n, t)), [-22])
            self.assertEqual(last(*calls, ("drill", 0), ("sure", 0, n, t)), [-22])
        self.assertEqual(last(*calls, ("sure", 0, 5, 100000)), [-6])
        self.assertEqual(last(*calls, ("drill", 0), ("sure", 0, 5, 100000)), [-13])

    def test_who_is_in_is_not_missing_wherever_and_whenever_they_came(self):
        told = message(1, {p: code(90, 4) for p in range(1, 16)}, {0: 5})
        calls = [("start", 0, 3), ("hear", 0, told)]
        self.assertEqual(last(*calls, ("sure", 0, 1, 4)), [1, 1])
        calls.append(("in", 0, 0))
        self.assertEqual(last(*calls, ("sure", 0, 1, 4)), [0, 0])

    def test_the_last_minute_of_all(self):
        calls = [("start", 0, 0), ("drill", 0), *minutes(0, 100000)]
        self.assertEqual(asked(*calls, ("sure", 0, 1, 99999), ("sure", 0, 1, 100000))[-2:], [[16, EVERYBODY], [-13]])

    def test_a_new_drill_begins_with_no_news_of_others(self):
        self.assertEqual(last(*self.base(), ("drill", 0), ("sure", 0, 1, 0)), [-13])
        self.assertEqual(last(*self.base(), ("hear", 0, message(2)), ("sure", 0, 1, 0)), [-13])


class Asking(unittest.TestCase):
    def test_asking_changes_nothing(self):
        calls = [("start", 0, 2), ("minutes", 0, 3), ("hear", 0, message(2, {1: code(1, 1)}, {1: 2})), ("in", 0, 0)]
        questions = [("at", 0, 1), ("at", 0, 5)] + [("sure", 0, n, t) for n, t in ((1, 0), (3, 0), (0, 0), (2, 9))]
        for question in questions:
            self.assertEqual(whole(calls + [question], 0), whole(calls, 0))


if __name__ == "__main__":
    unittest.main()
