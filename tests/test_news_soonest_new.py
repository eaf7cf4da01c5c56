"""Promise 4: mu_news, mu_soonest, mu_new."""

import unittest

from tests.helper import asked, bits, code, last, message, minutes, whole

HIGHEST = 4294967295


def news(calls):
    return [row[0] for row in asked(*calls, *[("news", 0, k) for k in range(5)])[len(calls):]]


def soonest(calls):
    return asked(*calls, *[("soonest", 0, n) for n in range(1, 6)])[len(calls):]


class News(unittest.TestCase):
    def base(self):
        return [("start", 0, 1), ("minutes", 0, 20), ("hear", 0, message(3, {}, {0: 15, 3: 8, 4: 13}))]

    def test_answers_one_number_alone(self):
        self.assertEqual(last(*self.base(), ("news", 0, 4)), [13])

    def test_above_4_is_refused(self):
        for k in (5, 6, 255, HIGHEST, -1):
            self.assertEqual(last(*self.base(), ("news", 0, k)), [-2])
            self.assertEqual(last(("start", 0, 4), ("news", 0, k)), [-2])

    def test_ahead_of_any_drill(self):
        for me in range(5):
            self.assertEqual(news([("start", 0, me)]), [0] * 5)
            calls = [("start", 0, me), ("minutes", 0, 6)]
            self.assertEqual(news(calls), [6 if k == me else 0 for k in range(5)])

    def test_of_itself_they_are_the_minute_now(self):
        for me in range(5):
            calls = [("start", 0, me), ("drill", 0), ("minutes", 0, 6), ("minutes", 0, 5)]
            self.assertEqual(news(calls), [11 if k == me else 0 for k in range(5)])
        self.assertEqual(last(("start", 0, 2), *minutes(0, 100000), ("news", 0, 2)), [100000])

    def test_of_itself_whatever_a_message_told(self):
        for drill in (2, 3, 4):
            for told in (0, 19, 20, 21, 100000):
                calls = self.base() + [("hear", 0, message(drill, {}, {1: told}))]
                self.assertEqual(last(*calls, ("news", 0, 1)), [20])
                self.assertEqual(last(*calls, ("minutes", 0, 1), ("news", 0, 1)), [21])

    def test_of_itself_once_it_has_another_number(self):
        calls = self.base() + [("start", 0, 3)]
        self.assertEqual(news(calls), [0] * 5)
        self.assertEqual(news(calls + [("minutes", 0, 4)]), [0, 0, 0, 4, 0])

    def test_what_was_heard_of_others(self):
        self.assertEqual(news(self.base()), [15, 20, 0, 8, 13])

    def test_the_greater_is_kept(self):
        calls = self.base() + [("hear", 0, message(3, {}, {0: 14, 2: 1, 3: 8, 4: 100000}))]
        self.assertEqual(news(calls), [15, 20, 1, 8, 100000])

    def test_an_older_drill_tells_no_news(self):
        calls = self.base() + [("hear", 0, message(2, {}, {k: 99 for k in range(5)}))]
        self.assertEqual(news(calls), [15, 20, 0, 8, 13])

    def test_they_start_anew_with_a_drill(self):
        self.assertEqual(news(self.base() + [("drill", 0)]), [0, 20, 0, 0, 0])
        self.assertEqual(news(self.base() + [("hear", 0, message(4, {}, {3: 2}))]), [0, 20, 0, 2, 0])

    def test_minutes_of_others_do_not_go_by_unheard(self):
        self.assertEqual(news(self.base() + [("minutes", 0, 7)]), [15, 27, 0, 8, 13])


class Soonest(unittest.TestCase):
    def heard(self, me, minute, told):
        return [("start", 0, me), *minutes(0, minute), ("hear", 0, message(1, {}, dict(enumerate(told))))]

    def test_numbers_of_stations(self):
        calls = self.heard(0, 9, [0, 9, 9, 9, 9])
        for n in (0, 6, 7, HIGHEST, -1):
            self.assertEqual(last(*calls, ("soonest", 0, n)), [-22])
            self.assertEqual(last(("start", 0, 0), ("soonest", 0, n)), [-22])
        self.assertEqual(soonest(calls), [[9, 1], [9, 3], [9, 7], [9, 15], [9, 31]])

    def test_one_earliest(self):
        for k in range(5):
            told = [30] * 5
            told[k] = 10
            me = (k + 2) % 5
            expected = [[10, 2 ** k] if n > k else [30, bits(range(n))] for n in range(1, 6)]
            self.assertEqual(soonest(self.heard(me, 30, told)), expected)

    def test_several_alike(self):
        self.assertEqual(soonest(self.heard(2, 9, [8, 5, 0, 5, 5])), [[8, 1], [5, 2], [5, 2], [5, 10], [5, 26]])

    def test_itself_among_them(self):
        self.assertEqual(soonest(self.heard(1, 4, [6, 0, 4, 7, 5])), [[6, 1], [4, 2], [4, 6], [4, 6], [4, 6]])
        # What was told of itself doesn't count, neither earlier nor later.
        self.assertEqual(soonest(self.heard(1, 4, [6, 1, 4, 7, 5])), [[6, 1], [4, 2], [4, 6], [4, 6], [4, 6]])
        self.assertEqual(soonest(self.heard(1, 4, [6, 9, 4, 7, 5])), [[6, 1], [4, 2], [4, 6], [4, 6], [4, 6]])

    def test_itself_not_among_them(self):
        self.assertEqual(soonest(self.heard(4, 1, [6, 3, 4, 3, 0])), [[6, 1], [3, 2], [3, 2], [3, 10], [1, 16]])

    def test_ahead_of_any_drill(self):
        self.assertEqual(soonest([("start", 0, 0)]), [[0, 1], [0, 3], [0, 7], [0, 15], [0, 31]])
        self.assertEqual(soonest([("start", 0, 0), ("minutes", 0, 5)]), [[5, 1], [0, 2], [0, 6], [0, 14], [0, 30]])
        self.assertEqual(soonest([("start", 0, 4), ("minutes", 0, 5)]), [[0, 1], [0, 3], [0, 7], [0, 15], [0, 15]])

    def test_the_last_minute_of_all(self):
        self.assertEqual(soonest(self.heard(0, 100000, [0] + [100000] * 4))[4], [100000, 31])


class New(unittest.TestCase):
    def base(self):
        """Station 1 in drill 3, minute 20: persons 0 to 2 known; two messages heard."""
        told = message(3, {0: code(10, 0), 1: code(11, 2), 2: code(12, 4)}, {0: 15, 4: 13})
        return [("start", 0, 1), ("minutes", 0, 20), ("hear", 0, told), ("hear", 0, message(1))]

    def check(self, told, expected, calls=None):
        calls = calls or self.base()
        self.assertEqual(last(*calls, ("new", 0, told)), [expected])
        self.assertEqual(whole(calls + [("new", 0, told)], 0), whole(calls, 0))
        rows = asked(*calls, ("new", 0, told), ("hear", 0, told))
        self.assertEqual(rows[-2], rows[-1][:1])

    def test_not_good(self):
        for told in (
            message(0), message(1001), message(HIGHEST), message(3, {0: 6}), message(3, {7: 8}),
            message(3, {15: 800009}), message(3, {15: 800006}), message(3, {}, {0: 100001}), message(3, {}, {4: HIGHEST}), message(2, {3: 7}),
            message(4, {3: 16}),
        ):
            self.check(told, -71)
            self.check(told, -71, [("start", 0, 0)])

    def test_of_an_older_drill(self):
        for drill in (1, 2):
            self.check(message(drill), 0)
            self.check(message(drill, {p: code(90, 3) for p in range(16)}, {3: 91}), 0)

    def test_of_the_same_drill(self):
        self.check(message(3), 0)
        self.check(message(3, {0: code(10, 0), 1: code(11, 1), 2: code(11, 4)}), 0)
        self.check(message(3, {0: code(10, 1), 1: code(11, 2), 2: code(12, 3), 9: 1}), 2)
        self.check(message(3, {p: 800005 for p in range(16)}, {k: 100000 for k in range(5)}), 16)

    def test_news_alone_are_nothing_new_of_persons(self):
        self.check(message(3, {}, {k: 100000 for k in range(5)}), 0)

    def test_of_a_later_drill(self):
        for drill in (4, 1000):
            self.check(message(drill), 0)
            self.check(message(drill, {0: code(10, 0)}), 1)
            self.check(message(drill, {0: code(1, 0), 1: code(11, 2), 2: code(99, 4), 15: 1}, {2: 3}), 4)
            self.check(message(drill, {p: 1 for p in range(16)}), 16)

    def test_ahead_of_any_drill(self):
        self.check(message(1), 0, [("start", 0, 0)])
        self.check(message(1, {3: 1, 15: 800005}), 2, [("start", 0, 0)])

    def test_heard_already(self):
        told = message(3, {5: code(3, 3)}, {3: 4})
        rows = asked(*self.base(), ("new", 0, told), ("hear", 0, told), ("new", 0, told))
        self.assertEqual(rows[-3:], [[1], [1, 3], [0]])


class Asking(unittest.TestCase):
    def test_asking_changes_nothing(self):
        calls = [("start", 0, 2), ("minutes", 0, 3), ("hear", 0, message(2, {1: code(1, 1)}, {1: 2})), ("in", 0, 0)]
        for question in (("news", 0, 1), ("news", 0, 2), ("news", 0, 5), ("soonest", 0, 5), ("soonest", 0, 0)):
            self.assertEqual(whole(calls + [question], 0), whole(calls, 0))


if __name__ == "__main__":
    unittest.main()
