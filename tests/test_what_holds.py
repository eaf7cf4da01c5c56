"""'What holds', over the whole program: three stations whose messages get lost, come late, or twice."""

import itertools
import random
import unittest

from tests.helper import asked, bits, code, message, shown

ORDERS = list(itertools.permutations(range(3)))
SEEDS = range(24)
STEPS = 150


def members(number):
    return [p for p in range(16) if number >> p & 1]


def watched(station, chance, latest):
    """Calls that tell what a station says just now; mu_state ahead tells in which drill and minute."""
    calls = [("state", station), ("sure", station, 3, chance.randrange(latest + 2)), ("tell", station)]
    calls += [("count", station)] + [("at", station, k) for k in range(5)]
    return calls + [("where", station, p) for p in chance.sample(range(16), 4)]


class Muster:
    """A line in which stations 0 to 2 stand for all there are and one of them alone begins drills."""

    def __init__(self, seed):
        self.chance = random.Random(seed)
        self.told = []
        self.minute = 0
        self.calls = [("start", place, me) for place, me in enumerate(ORDERS[seed % len(ORDERS)])]
        self.calls.append(("drill", 0))
        for step in range(STEPS):
            act = self.chance.choice([
                self.minutes, self.minutes, self.come, self.tell, self.tell,
                self.hear, self.hear, self.hear, self.watch,
            ])
            act(self.chance.randrange(3))
            if self.chance.random() < 0.01:
                self.calls.append(("drill", 0))
        self.rows = asked(*self.calls)

    def minutes(self, station):
        # All go alike; but in which order they are told so is left open.
        self.calls.extend([("minutes", place, 1) for place in self.chance.sample(range(3), 3)])
        self.minute += 1

    def come(self, station):
        self.calls.extend([("state", station), ("in", station, self.chance.randrange(16))])

    def tell(self, station):
        self.calls.append(("tell", station))
        row = asked(*self.calls)[-1]
        if row[0] >= 0:
            self.told.append(row[1:])

    def hear(self, station):
        if self.told:
            recent = self.told[-6:] if self.chance.random() < 0.8 else self.told
            self.calls.append(("hear", station, self.chance.choice(recent)))

    def watch(self, station):
        self.calls.extend(watched(station, self.chance, self.minute))

    def answered(self):
        """(call, its answer, what mu_state of that station answered last ahead of it)."""
        states = {}
        for call, row in zip(self.calls, self.rows):
            if call[0] == "state":
                states[call[1]] = row
            yield call, row, states.get(call[1])

    def came(self):
        """(drill, person, minute, station) of all that came in, whenever in the line."""
        found = set()
        for call, row, state in self.answered():
            if call[0] == "in" and row[0] >= 0:
                minute, me, drill, heard = state
                found.add((drill, call[2], minute, me))
        return found


class OverTheRadio(unittest.TestCase):
    @classmethod
    def setUpClass(cls):
        cls.musters = [Muster(seed) for seed in SEEDS]

    def test_missing_surely(self):
        surely = 0
        left_open = 0
        for muster in self.musters:
            came = muster.came()
            for call, row, state in muster.answered():
                if call[0] != "sure":
                    continue
                left_open += row == [-13]
                if row[0] < 0:
                    continue
                for p in members(row[1]):
                    surely += 1
                    # Who comes in only further down the line counts, too.
                    early = [one for one in came if one[:2] == (state[2], p) and one[2] <= call[3]]
                    self.assertEqual(early, [])
        self.assertGreater(surely, 100)
        self.assertGreater(left_open, 50)

    def test_who_is_in_has_come(self):
        found = 0
        for muster in self.musters:
            came = set()
            for call, row, state in muster.answered():
                if row[0] < 0:
                    continue
                if call[0] == "in":
                    came.add((state[2], call[2], state[0], state[1]))
                if call[0] == "where":
                    found += 1
                    self.assertIn((state[2], call[2], row[1], row[0]), came)
        self.assertGreater(found, 100)

    def test_news_of_a_station_hold_all_that_came_in_before(self):
        for muster in self.musters:
            came = muster.came()
            for call, row, state in muster.answered():
                if call[0] != "tell" or row[0] < 0:
                    continue
                drill, known, news = row[1], row[2:18], row[18:]
                for p, minute, where in [one[1:] for one in came if one[0] == drill]:
                    if minute < news[where]:
                        self.assertGreaterEqual(known[p], code(minute, where))

    def test_nothing_is_forgotten_in_a_drill(self):
        for muster in self.musters:
            before = {}
            for call, row, state in muster.answered():
                if call[0] != "tell" or row[0] < 0:
                    continue
                earlier = before.get(call[1], [0] * 22)
                self.assertGreaterEqual(row[1], earlier[0])
                if row[1] == earlier[0]:
                    for now, then in zip(row[2:], earlier[1:]):
                        self.assertGreaterEqual(now, then)
                before[call[1]] = row[1:]

    def test_nobody_is_at_two_stations(self):
        for muster in self.musters:
            for place, call in enumerate(muster.calls):
                if call[0] == "count":
                    count, who = muster.rows[place]
                    at = muster.rows[place + 1:place + 6]
                    self.assertEqual(sum(row[0] for row in at), count)
                    self.assertEqual(sum(row[1] for row in at), who)
                    self.assertEqual(sorted(p for row in at for p in members(row[1])), members(who))

    def test_what_is_told_is_good(self):
        for muster in self.musters:
            self.assertNotIn([-71], muster.rows)
            for told in muster.told:
                self.assertEqual(len(told), 22)
                self.assertTrue(1 <= told[0] <= 1000)
                for number in told[1:17]:
                    self.assertTrue(number == 0 or 1 <= number % 8 <= 5 and number // 8 <= 100000)
                for minute in told[17:]:
                    self.assertLessEqual(minute, 100000)

    def known(self, calls, station):
        return asked(*calls, ("tell", station))[-1][:18]

    def told(self, calls, station):
        row = asked(*calls, ("tell", station))[-1]
        return [("hear", 1 - station, row[1:])] if row[0] >= 0 else []

    def test_two_that_have_told_each_other_know_the_same(self):
        for muster in self.musters:
            for first in (0, 1):
                # One tells once it has heard the other.
                calls = muster.calls + self.told(muster.calls, first)
                calls += self.told(calls, 1 - first)
                self.assertEqual(self.known(calls, 0), self.known(calls, 1))
            # Both have told before either heard.
            calls = muster.calls + self.told(muster.calls, 0) + self.told(muster.calls, 1)
            self.assertEqual(self.known(calls, 0), self.known(calls, 1))


class WhateverOrder(unittest.TestCase):
    def some_message(self, chance):
        persons = {p: code(chance.randrange(4), chance.randrange(5)) for p in chance.sample(range(16), 8)}
        return message(chance.randrange(2, 5), persons, {k: chance.randrange(9) for k in range(5)})

    def test_two_messages(self):
        chance = random.Random(5)
        for turn in range(150):
            calls = [("start", 0, chance.randrange(5)), ("minutes", 0, 4)]
            calls += [("hear", 0, self.some_message(chance)), ("in", 0, 3)][:chance.randrange(3)]
            one, other = [("hear", 0, self.some_message(chance)) for place in range(2)]
            forth = shown(calls + [one, other], 0)
            for heard in ([other, one], [one, one, other], [one, other, one], [one, other, other]):
                self.assertEqual(shown(calls + heard, 0), forth)

    def test_one_message_twice(self):
        chance = random.Random(6)
        for turn in range(50):
            calls = [("start", 0, chance.randrange(5)), ("hear", 0, self.some_message(chance))]
            one = ("hear", 0, self.some_message(chance))
            self.assertEqual(shown(calls + [one, one], 0), shown(calls + [one], 0))


class ByHand(unittest.TestCase):
    def test_missing_surely_only_once_the_news_of_all_are_late_enough(self):
        calls = [("start", place, place) for place in range(3)] + [("drill", 0)]
        calls += [("hear", place, message(1)) for place in (1, 2)]
        calls += [("in", 1, 4), ("minutes", 0, 1), ("minutes", 1, 1), ("minutes", 2, 1), ("in", 2, 7)]
        self.assertEqual(asked(*calls, ("sure", 0, 3, 0))[-1], [-13])
        # Station 1 alone was heard: of station 2 nothing is sure.
        calls.append(("hear", 0, asked(*calls, ("tell", 1))[-1][1:]))
        self.assertEqual(asked(*calls, ("sure", 0, 2, 0), ("sure", 0, 3, 0))[-2:], [[15, 65535 - 16], [-13]])
        # Station 2 has told in minute 1: all of minute 0 is known, of minute 1 it isn't.
        calls.append(("hear", 0, asked(*calls, ("tell", 2))[-1][1:]))
        rows = asked(*calls, ("sure", 0, 3, 0), ("sure", 0, 3, 1))[-2:]
        self.assertEqual(rows, [[14, 65535 - bits([4, 7])], [-13]])


if __name__ == "__main__":
    unittest.main()
