"""All calls, 0 to 16, on three stations mixed in one list: by hand, and against the document's words done slowly."""

import random
import unittest

from shipmuster.muster import answers
from tests.helper import apart, asked, bits, code, line, message

HIGHEST = 4294967295
EDGES = (0, 1, 5, 6, 7, 8, 9, 1000, 1001, 100000, 100001, 800005, 800009, HIGHEST)


def some(members):
    return [len(members), bits(members)]


class Slow:
    """A station that keeps all it ever heard of in this drill, and looks through it each time."""

    def start(self, me):
        if me > 4:
            return [-22]
        self.me, self.now, self.messages = me, 0, 0
        self.join(0)
        return [0]

    def join(self, drill):
        self.current = drill
        self.places = {p: [] for p in range(16)}
        self.heard_of = {k: [0] for k in range(5)}

    def minutes(self, n):
        if n not in range(1, 1441):
            return [-22]
        if self.now + n > 100000:
            return [-75]
        self.now += n
        return [self.now]

    def drill(self):
        if self.current == 1000:
            return [-28]
        self.join(self.current + 1)
        return [self.current]

    def place(self, p):
        return max(self.places[p])

    def number(self, p):
        return code(*self.place(p)) if self.places[p] else 0

    def inside(self):
        return [p for p in range(16) if self.places[p]]

    def outside(self):
        return [p for p in range(16) if not self.places[p]]

    def come(self, p):
        if p > 15:
            return [-2]
        if self.current == 0:
            return [-6]
        before = self.number(p)
        if self.places[p] and self.place(p) >= (self.now, self.me):
            return [-17]
        self.places[p].append((self.now, self.me))
        return [before]

    def minute_of_news(self, k):
        return self.now if k == self.me else max(self.heard_of[k])

    def tell(self):
        if self.current == 0:
            return [-6]
        numbers = [self.number(p) for p in range(16)]
        return [len(self.inside()), self.current] + numbers + [self.minute_of_news(k) for k in range(5)]

    def good(self, told):
        places = all(number == 0 or number % 8 in (1, 2, 3, 4, 5) and number // 8 <= 100000 for number in told[1:17])
        return 1 <= told[0] <= 1000 and places and max(told[17:]) <= 100000

    def hear(self, told):
        if not self.good(told):
            return [-71]
        self.messages += 1
        if told[0] < self.current:
            return [0, self.current]
        if told[0] > self.current:
            self.join(told[0])
        before = [self.number(p) for p in range(16)]
        for p in range(16):
            if told[1 + p]:
                self.places[p].append((told[1 + p] // 8, told[1 + p] % 8 - 1))
        for k in range(5):
            self.heard_of[k].append(told[17 + k])
        return [sum(self.number(p) != before[p] for p in range(16)), self.current]

    def where(self, p):
        if p > 15:
            return [-2]
        return [self.place(p)[1], self.place(p)[0]] if self.places[p] else [-6]

    def count(self):
        return some(self.inside())

    def missing(self):
        return some(self.outside()) if self.current else [-6]

    def at(self, k):
        if k > 4:
            return [-2]
        return some([p for p in self.inside() if self.place(p)[1] == k])

    def sure(self, n, t):
        if n not in (1, 2, 3, 4, 5) or t > 100000:
            return [-22]
        if self.current == 0:
            return [-6]
        for k in range(n):
            if not self.minute_of_news(k) > t:
                return [-13]
        return self.missing()

    def news(self, k):
        return [-2] if k > 4 else [self.minute_of_news(k)]

    def soonest(self, n):
        if n not in (1, 2, 3, 4, 5):
            return [-22]
        earliest = sorted(self.minute_of_news(k) for k in range(n))[0]
        return [earliest, bits([k for k in range(n) if self.minute_of_news(k) == earliest])]

    def new(self, told):
        twin = Slow()
        twin.current, twin.messages = self.current, 0
        twin.places = {p: list(places) for p, places in self.places.items()}
        twin.heard_of = {k: list(heard) for k, heard in self.heard_of.items()}
        return twin.hear(told)[:1]

    def last(self):
        if not self.inside():
            return [-6]
        (minute, station), p = sorted((self.place(p), p) for p in self.inside())[-1]
        return [p, minute, station]

    def which(self):
        return [self.current] if self.current else [-6]

    def state(self):
        return [self.now, self.me, self.current, self.messages]


# mu_in can't be a method's name of its own.
METHODS = {"in": "come"}

KINDS = (
    ["minutes"] * 6 + ["in"] * 8 + ["tell"] * 6 + ["hear"] * 14 + ["new"] * 6 + ["sure"] * 6 + ["where"] * 3
    + "drill start count missing at at news news soonest soonest last last which state state".split()
)


class Mixed:
    """A line made by chance, and what the slow stations answer to it."""

    def __init__(self, seed, length):
        self.chance = random.Random(seed)
        self.told = []
        self.stations = [Slow(), Slow(), Slow()]
        self.calls = []
        self.rows = []
        for station, me in enumerate(self.chance.sample(range(5), 3)):
            self.put("start", station, me)
        while len(self.calls) < length:
            name = self.chance.choice(KINDS)
            self.put(name, self.chance.randrange(3), *self.values(name))

    def put(self, name, station, *values):
        row = getattr(self.stations[station], METHODS.get(name, name))(*values)
        if name == "tell" and row[0] >= 0:
            self.told.append(row[1:])
        self.calls.append((name, station, *values))
        self.rows.append(row)

    def values(self, name):
        chance = self.chance
        wild = chance.random() < 0.05
        if name in ("hear", "new"):
            return [self.some_message()]
        if name == "sure":
            latest = max(station.now for station in self.stations)
            t = chance.choice([chance.randrange(latest + 2), 0, 99999, 100000, 100001])
            return [chance.randrange(7), HIGHEST if wild else t]
        top = {"start": 6, "minutes": 4, "in": 17, "where": 17, "at": 6, "news": 6, "soonest": 7}.get(name)
        if top is None:
            return []
        return [chance.choice([HIGHEST, 1440, 1441, 255]) if wild else chance.randrange(top)]

    def some_message(self):
        chance = self.chance
        if self.told and chance.random() < 0.7:
            told = list(chance.choice(self.told[-10:]))
        else:
            latest = max(station.now for station in self.stations)
            places = [code(chance.randrange(latest + 2), chance.randrange(5)) for place in range(3)]
            persons = dict(zip(chance.sample(range(16), 3), places))
            told = message(chance.randrange(5), persons, {chance.randrange(5): latest + 1})
        if chance.random() < 0.2:
            told[chance.randrange(22)] = chance.choice(EDGES)
        return told


class ByChance(unittest.TestCase):
    def check(self, seed, length):
        mixed = Mixed(seed, length)
        calls = line(*mixed.calls)
        self.assertLessEqual(len(calls), 25000)
        kept = list(calls)
        given = answers(calls)
        self.assertEqual(calls, kept)
        self.assertEqual(answers(calls), given)
        rows = apart(given)
        self.assertEqual(len(rows), length)
        for call, row, expected in zip(mixed.calls, rows, mixed.rows):
            self.assertEqual(row, expected, call)
        return mixed

    def test_lines_of_a_thousand_calls(self):
        seen = {}
        for seed in range(12):
            mixed = self.check(seed, 1000)
            for call, row in zip(mixed.calls, mixed.rows):
                seen.setdefault(call[0], set()).add(min(row[0], 0))
        # Chance is to bring about each call and each of its refusals but -75 and -28, which take long ways.
        for name, numbers in {
            "start": {0, -22}, "minutes": {0, -22}, "drill": {0}, "in": {0, -2, -6, -17}, "tell": {0, -6},
            "hear": {0, -71}, "where": {0, -2, -6}, "count": {0}, "missing": {0, -6}, "at": {0, -2},
            "sure": {0, -22, -6, -13}, "news": {0, -2}, "soonest": {0, -22}, "new": {0, -71}, "last": {0, -6},
            "which": {0, -6}, "state": {0},
        }.items():
            self.assertLessEqual(numbers, seen[name], name)

    def test_short_lines(self):
        for seed in range(100, 300):
            self.check(seed, 3 + seed % 40)


class ByHand(unittest.TestCase):
    def test_each_call_once(self):
        told = message(1, {3: code(5, 1)}, {1: 5})
        rows = asked(
            ("start", 0, 1), ("start", 1, 4), ("start", 2, 0), ("minutes", 0, 5), ("minutes", 1, 6), ("drill", 0),
            ("in", 0, 3), ("tell", 0), ("new", 1, told), ("hear", 1, told), ("where", 1, 3), ("count", 1),
            ("missing", 0),
            ("at", 1, 1), ("at", 1, 4), ("sure", 0, 2, 4), ("sure", 1, 1, 0), ("news", 1, 1), ("news", 0, 4),
            ("soonest", 1, 5), ("last", 1), ("last", 2), ("which", 1), ("which", 2),
            ("state", 0), ("state", 1), ("state", 2),
        )
        self.assertEqual(rows, [
            [0], [0], [0], [5], [6], [1], [0], [1] + told, [1], [1, 1], [1, 5], [1, 8], [15, 65527],
            [1, 8], [0, 0], [-13], [-13], [5], [0], [0, 13], [3, 5, 1], [-6], [1], [-6], [5, 1, 1, 0], [6, 4, 1, 1],
            [0, 0, 0, 0],
        ])

    def test_number_by_number(self):
        calls = [0, 2, 0, 2, 2, 1, 2, 7, 3, 2, 15]
        calls += [9, 2, 0, 10, 2, 1, 6, 11, 2, 0, 12, 2, 2, 13, 2, 22, 1, 9] + [0] * 20 + [14, 2, 15, 2, 16, 2, 9, 2, 5]
        expected = [1, 0, 1, 1, 1, 7, 1, 0]
        expected += [2, 1, 32768, 2, 15, 32767, 1, 7, 2, 0, 2, 1, 1, 3, 15, 7, 0, 1, 1, 4, 7, 0, 1, 0, 1, -2]
        self.assertEqual(answers(calls), expected)

    def test_a_thousand_calls_with_messages(self):
        told = message(1000, {p: 800005 for p in range(16)}, {k: 100000 for k in range(5)})
        calls = line(("start", 2, 4), *[("hear", 2, told)] * 998, ("state", 2))
        self.assertEqual(apart(answers(calls))[-1], [0, 4, 1000, 998])
        calls = line(("start", 2, 4), *[("new", 2, told)] * 998, ("state", 2))
        self.assertEqual(apart(answers(calls))[1:], [[16]] * 998 + [[0, 4, 0, 0]])


if __name__ == "__main__":
    unittest.main()
