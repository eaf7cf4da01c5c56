"""The interface: how calls and answers stand in their lists, and what is left as it was."""

import unittest

from shipmuster.muster import answers
from tests.helper import apart, asked, code, line, message, whole


class Untouchable(list):
    """A list that can only be read."""

    def refuse(self, *args, **kwargs):
        raise AssertionError("what was handed in is changed")

    append = extend = insert = remove = pop = clear = sort = reverse = refuse
    __setitem__ = __delitem__ = __iadd__ = __imul__ = refuse


def long_line():
    return line(
        ("start", 0, 1), ("start", 1, 9), ("start", 1, 4), ("start", 2, 0), ("minutes", 0, 5), ("minutes", 1, 5),
        ("drill", 0), ("in", 0, 3), ("in", 0, 3), ("tell", 0), ("hear", 1, message(1, {3: 42}, {1: 5})),
        ("hear", 2, message(1001)), ("in", 1, 3), ("tell", 1), ("tell", 2), ("where", 1, 3), ("count", 0),
        ("missing", 2), ("missing", 1), ("hear", 0, message(2, {8: 800005})), ("where", 0, 8),
    )


class Lists(unittest.TestCase):
    def test_a_whole_line_number_by_number(self):
        calls = [0, 0, 2, 1, 0, 3, 2, 0, 3, 0, 1, 4, 0, 5, 0, 22, 1] + [9] + [0] * 20 + [6, 0, 1, 7, 0, 8, 0, 6, 0, 99]
        expected = [1, 0, 1, 3, 1, 1, 1, 0]
        expected += [23, 1, 1, 0, 27] + [0] * 14 + [0, 0, 3, 0, 0]
        expected += [2, 1, 1, 2, 2, 3, 2, 2, 3, 2, 14, 65532, 1, -2]
        self.assertEqual(answers(calls), expected)

    def test_one_call(self):
        self.assertEqual(answers([0, 0, 0]), [1, 0])
        self.assertEqual(answers([0, 2, 5]), [1, -22])

    def test_answers_and_refusals_one_behind_another(self):
        rows = apart(answers(long_line()))
        self.assertEqual(rows, [
            [0], [-22], [0], [0], [5], [5], [1], [0], [-17],
            [1] + message(1, {3: code(5, 1)}, {1: 5}), [1, 1], [-71], [code(5, 1)],
            [1] + message(1, {3: code(5, 4)}, {1: 5, 4: 5}), [-6], [4, 5], [1, 8], [-6], [15, 65527],
            [1, 2], [4, 100000],
        ])

    def test_a_thousand_calls(self):
        calls = [("start", 0, 0), ("drill", 0)] + [("hear", 0, message(1, {0: 1}))] * 998
        self.assertEqual(asked(*calls)[2:], [[1, 1]] + [[0, 1]] * 997)

    def test_answers_are_whole_numbers_in_a_list(self):
        given = answers(long_line())
        self.assertIs(type(given), list)
        for number in given:
            self.assertIs(type(number), int)


class LeftAsItWas(unittest.TestCase):
    def test_the_list_that_was_handed_in(self):
        calls = long_line()
        answers(calls)
        self.assertEqual(calls, long_line())

    def test_not_for_a_while_either(self):
        self.assertEqual(answers(Untouchable(long_line())), answers(long_line()))

    def test_nothing_is_kept_from_one_time_to_the_next(self):
        first = answers(long_line())
        answers(line(("start", 0, 3), ("minutes", 0, 77), ("drill", 0), ("in", 0, 9)))
        self.assertEqual(answers(long_line()), first)

    def test_what_is_given_back_is_not_kept(self):
        first = answers(long_line())
        kept = list(first)
        first.clear()
        self.assertEqual(answers(long_line()), kept)


class ThreeStations(unittest.TestCase):
    def test_they_do_not_touch_each_other(self):
        # The same number for all three: they are still three.
        calls = [("start", k, 2) for k in range(3)] + [("drill", k) for k in range(3)]
        before = [whole(calls, k) for k in range(3)]
        busy = [
            ("minutes", 1, 8), ("in", 1, 5), ("hear", 1, message(1, {6: 1}, {4: 3})), ("drill", 1), ("in", 1, 7),
            ("start", 1, 4), ("drill", 1), ("in", 1, 0),
        ]
        for count in range(1, len(busy) - 2):
            self.assertEqual(whole(calls + busy[:count], 0), before[0])
            self.assertEqual(whole(calls + busy[:count], 2), before[2])
            self.assertNotEqual(whole(calls + busy[:count], 1), before[1])
        self.assertEqual(whole(calls + busy, 0), before[0])
        self.assertEqual(whole(calls + busy, 2), before[2])

    def test_each_has_its_own_minute_drill_and_number(self):
        rows = asked(
            ("start", 0, 4), ("start", 1, 3), ("start", 2, 2), ("minutes", 0, 1), ("minutes", 1, 2), ("minutes", 2, 3),
            ("drill", 2), ("drill", 2), ("drill", 1), ("in", 2, 0), ("in", 1, 0), ("in", 0, 0), ("tell", 2), ("tell", 1),
        )
        self.assertEqual(rows[3:12], [[1], [2], [3], [1], [2], [1], [0], [0], [-6]])
        self.assertEqual(rows[12:], [[1] + message(2, {0: 27}, {2: 3}), [1] + message(1, {0: 20}, {3: 2})])


if __name__ == "__main__":
    unittest.main()
