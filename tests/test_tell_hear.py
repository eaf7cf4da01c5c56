"""Promise 2: mu_tell and mu_hear."""

import itertools
import unittest

from shipmuster.station import Station
from tests.helper import asked, code, last, message, minutes, shown, whole

HIGHEST = 4294967295


class Tell(unittest.TestCase):
    def test_no_drill(self):
        self.assertEqual(last(("start", 0, 0), ("minutes", 0, 3), ("tell", 0)), [-6])

    def test_nobody_in(self):
        for me in range(5):
            calls = [("start", 0, me), ("drill", 0), ("drill", 0), ("minutes", 0, 12), ("tell", 0)]
            self.assertEqual(last(*calls), [0] + message(2, {}, {me: 12}))

    def test_the_22_numbers(self):
        persons = {0: code(1, 0), 3: code(2, 4), 14: code(6, 3)}
        calls = [
            ("start", 0, 2), ("minutes", 0, 7), ("hear", 0, message(5, persons, {0: 5, 1: 6, 3: 3, 4: 4})),
            ("in", 0, 15), ("tell", 0),
        ]
        row = last(*calls)
        self.assertEqual(row, [4, 5, 9, 0, 0, 21, 0, 0, 0, 0, 0, 0, 0, 0, 0, 0, 52, 59, 5, 6, 7, 3, 4])
        self.assertEqual(len(row), 23)

    def test_news_of_itself_go_with_the_minutes(self):
        rows = asked(("start", 0, 4), ("drill", 0), ("tell", 0), ("minutes", 0, 1), ("tell", 0), ("minutes", 0, 9),
                     ("tell", 0))
        self.assertEqual([row[-5:] for row in (rows[2], rows[4], rows[6])],
                         [[0, 0, 0, 0, 0], [0, 0, 0, 0, 1], [0, 0, 0, 0, 10]])

    def test_telling_changes_nothing(self):
        calls = [("start", 0, 1), ("drill", 0), ("in", 0, 2)]
        self.assertEqual(whole(calls + [("tell", 0), ("tell", 0)], 0), whole(calls, 0))

    def test_what_is_told_is_good_at_the_last_of_all(self):
        calls = [
            ("start", 0, 4), ("start", 1, 0), ("hear", 0, message(1000)), *minutes(0, 100000), ("in", 0, 0), ("tell", 0),
        ]
        told = last(*calls)[1:]
        self.assertEqual(last(*calls, ("hear", 1, told)), [1, 1000])


class Good(unittest.TestCase):
    def heard(self, told):
        return last(("start", 0, 0), ("hear", 0, told))

    def test_drill(self):
        for drill in (1, 2, 999, 1000):
            self.assertEqual(self.heard(message(drill)), [0, drill])
        for drill in (0, 1001, HIGHEST, -1):
            self.assertEqual(self.heard(message(drill)), [-71])

    def test_drill_0_is_not_good_where_one_is_under_way_either(self):
        self.assertEqual(last(("start", 0, 0), ("drill", 0), ("hear", 0, message(0))), [-71])

    def test_rest_by_8(self):
        for p in (0, 8, 15):
            for rest in range(8):
                for eights in (0, 1, 99999, 100000):
                    number = 8 * eights + rest
                    good = number == 0 or 1 <= rest <= 5
                    expected = [int(number != 0), 1] if good else [-71]
                    self.assertEqual(self.heard(message(1, {p: number})), expected, number)

    def test_minute_of_a_person(self):
        for p in (0, 15):
            for number in (800001, 800005):
                self.assertEqual(self.heard(message(1, {p: number})), [1, 1])
            for number in (800006, 800008, 800009, 800013, HIGHEST - 6, HIGHEST, -7):
                self.assertEqual(self.heard(message(1, {p: number})), [-71], number)

    def test_each_person_is_looked_at(self):
        for p in range(16):
            self.assertEqual(self.heard(message(1, {p: 6})), [-71])
            self.assertEqual(self.heard(message(1, {p: 800005})), [1, 1])

    def test_each_news_is_looked_at(self):
        for k in range(5):
            self.assertEqual(self.heard(message(1, {}, {k: 100000})), [0, 1])
            for minute in (100001, HIGHEST, -1):
                self.assertEqual(self.heard(message(1, {}, {k: minute})), [-71])

    def test_news_have_no_rest_to_keep_to(self):
        for minute in range(17):
            self.assertEqual(self.heard(message(1, {}, {3: minute})), [0, 1])

    def test_one_that_is_not_good_changes_nothing(self):
        calls = [("start", 0, 1), ("minutes", 0, 4), ("drill", 0), ("in", 0, 3), ("hear", 0, message(1, {}, {2: 3}))]
        full = {p: code(50, 2) for p in range(15)}
        for told in (
            message(0, full, {2: 50}), message(1001, full, {2: 50}), message(1, {**full, 15: 6}, {2: 50}),
            message(2, {**full, 15: 800009}, {2: 50}), message(1, full, {2: 50, 4: 100001}),
            message(2, full, {2: 50, 4: 100001}),
        ):
            self.assertEqual(last(*calls, ("hear", 0, told)), [-71])
            self.assertEqual(whole(calls + [("hear", 0, told)], 0), whole(calls, 0))

    def test_an_older_drills_message_that_is_not_good_is_refused(self):
        calls = [("start", 0, 1), ("drill", 0), ("drill", 0)]
        self.assertEqual(last(*calls, ("hear", 0, message(1, {0: 7}))), [-71])


class Hear(unittest.TestCase):
    def base(self):
        """Station 1 in drill 3, minute 20: persons 0 to 2 known, news of 0 and 4."""
        return [
            ("start", 0, 1), ("minutes", 0, 20),
            ("hear", 0, message(3, {0: code(10, 0), 1: code(11, 2), 2: code(12, 4)}, {0: 15, 4: 13})),
        ]

    def test_first_message_is_joined(self):
        self.assertEqual(last(*self.base()), [3, 3])
        self.assertEqual(last(*self.base(), ("tell", 0)), [3] + message(
            3, {0: code(10, 0), 1: code(11, 2), 2: code(12, 4)}, {0: 15, 1: 20, 4: 13}))

    def test_same_drill_takes_the_greater_of_each(self):
        told = message(3, {0: code(10, 1), 1: code(10, 4), 2: code(12, 4), 9: code(0, 0)}, {0: 14, 2: 8, 4: 19})
        rows = asked(*self.base(), ("hear", 0, told), ("tell", 0))
        self.assertEqual(rows[-2], [2, 3])
        self.assertEqual(rows[-1], [4] + message(
            3, {0: code(10, 1), 1: code(11, 2), 2: code(12, 4), 9: code(0, 0)}, {0: 15, 1: 20, 2: 8, 4: 19}))

    def test_same_drill_with_nothing_new(self):
        self.assertEqual(last(*self.base(), ("hear", 0, message(3))), [0, 3])
        self.assertEqual(shown(self.base() + [("hear", 0, message(3))], 0), shown(self.base(), 0))

    def test_older_drill_changes_nothing(self):
        full = {p: code(90, 3) for p in range(16)}
        for drill in (1, 2):
            told = message(drill, full, {k: 99 for k in range(5)})
            self.assertEqual(last(*self.base(), ("hear", 0, told)), [0, 3])
            self.assertEqual(shown(self.base() + [("hear", 0, told)], 0), shown(self.base(), 0))

    def test_later_drill_is_joined_and_the_old_one_forgotten(self):
        for drill in (4, 1000):
            told = message(drill, {1: code(5, 0), 15: code(6, 3)}, {2: 2, 4: 6})
            rows = asked(*self.base(), ("hear", 0, told), ("tell", 0))
            self.assertEqual(rows[-2], [2, drill])
            self.assertEqual(rows[-1], [2] + message(drill, {1: code(5, 0), 15: code(6, 3)}, {1: 20, 2: 2, 4: 6}))

    def test_later_drill_counts_who_is_in_not_what_is_other_than_before(self):
        # Person 0 is told as before, 1 and 2 no more: one is in.
        told = message(4, {0: code(10, 0)})
        self.assertEqual(last(*self.base(), ("hear", 0, told)), [1, 4])
        self.assertEqual(last(*self.base(), ("hear", 0, message(4))), [0, 4])

    def test_a_later_drill_is_gone_on_from(self):
        self.assertEqual(last(*self.base(), ("hear", 0, message(7)), ("drill", 0)), [8])

    def test_the_minute_stays_as_it_was(self):
        told = message(4, {0: code(500, 0)}, {0: 501})
        self.assertEqual(last(*self.base(), ("hear", 0, told), ("minutes", 0, 1)), [21])

    def test_the_same_message_twice(self):
        told = message(3, {5: code(3, 3)}, {3: 4})
        rows = asked(*self.base(), ("hear", 0, told), ("hear", 0, told))
        self.assertEqual(rows[-2:], [[1, 3], [0, 3]])
        later = message(4, {5: code(3, 3)}, {3: 4})
        rows = asked(*self.base(), ("hear", 0, later), ("hear", 0, later))
        self.assertEqual(rows[-2:], [[1, 4], [0, 4]])

    def test_whatever_order(self):
        told = [
            message(2, {0: code(99, 4)}, {0: 99}), message(3), message(3, {0: code(10, 4), 3: code(9, 0)}, {0: 16, 2: 1}),
            message(3, {0: code(10, 3), 3: code(9, 1)}, {0: 14, 4: 30}), message(4, {3: code(9, 2)}, {1: 44, 2: 6}),
            message(4, {3: code(8, 4), 4: 1}, {2: 5, 3: 9}), message(5, {}, {0: 1}),
        ]
        for one, other in itertools.product(told, told):
            forth = shown(self.base() + [("hear", 0, one), ("hear", 0, other)], 0)
            back = shown(self.base() + [("hear", 0, other), ("hear", 0, one)], 0)
            twice = shown(self.base() + [("hear", 0, one), ("hear", 0, other), ("hear", 0, one)], 0)
            self.assertEqual(forth, back)
            self.assertEqual(forth, twice)

    def test_news_of_itself_later_than_its_own_minute(self):
        for drill in (3, 4):
            rows = asked(*self.base(), ("hear", 0, message(drill, {}, {1: 5000})), ("tell", 0), ("minutes", 0, 1),
                         ("tell", 0))
            self.assertEqual([rows[-3][19], rows[-1][19]], [20, 21])

    def test_news_of_itself_that_it_was_told_do_not_come_up_in_a_later_drill(self):
        rows = asked(*self.base(), ("hear", 0, message(3, {}, {1: 5000})), ("drill", 0), ("tell", 0))
        self.assertEqual(rows[-1], [0] + message(4, {}, {1: 20}))

    def test_own_persons_are_learnt_again_from_others(self):
        # Begun anew, a station hears from another whom it once had.
        rows = asked(("start", 0, 1), ("hear", 0, message(1, {4: code(30, 1)})), ("where", 0, 4), ("in", 0, 4))
        self.assertEqual(rows[-2:], [[1, 30], [-17]])

    def test_two_that_have_told_each_other_know_the_same(self):
        calls = [
            ("start", 0, 1), ("start", 1, 3), ("drill", 0), ("in", 0, 0), ("in", 0, 1), ("hear", 1, message(1)),
            ("in", 1, 1), ("in", 1, 2), ("minutes", 0, 5), ("minutes", 1, 5), ("in", 0, 2),
        ]
        forth = last(*calls, ("tell", 0))[1:]
        calls.append(("hear", 1, forth))
        back = last(*calls, ("tell", 1))[1:]
        calls.append(("hear", 0, back))
        rows = asked(*calls, ("tell", 0), ("tell", 1))
        self.assertEqual(rows[-2], rows[-1])
        self.assertEqual(rows[-1], [3] + message(1, {0: 2, 1: 4, 2: 42}, {1: 5, 3: 5}))


class Heard(unittest.TestCase):
    def test_each_good_message_counts_whatever_its_drill(self):
        station = Station()
        station.begin(2)
        counts = []
        for drill in (2, 1, 2, 3):
            station.hear(message(drill))
            counts.append(station.heard)
        self.assertEqual(counts, [1, 2, 3, 4])

    def test_counted_to_100000(self):
        station = Station()
        station.heard = 99999
        station.hear(message(1))
        self.assertEqual(station.heard, 100000)
        station.hear(message(1))
        self.assertEqual(station.heard, 100000)

    def test_a_start_begins_the_count_anew_and_a_drill_does_not(self):
        station = Station()
        station.hear(message(1))
        station.enter_drill(2)
        self.assertEqual(station.heard, 1)
        station.begin(0)
        self.assertEqual(station.heard, 0)


if __name__ == "__main__":
    unittest.main()
