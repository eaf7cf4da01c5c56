"""Writes calls as the interface has them, and takes the answers apart again."""

from shipmuster.muster import answers

NUMBERS = {
    "start": 0,
    "minutes": 1,
    "drill": 2,
    "in": 3,
    "tell": 4,
    "hear": 5,
    "where": 6,
    "count": 7,
    "missing": 8,
    "at": 9,
    "sure": 10,
    "news": 11,
    "soonest": 12,
    "new": 13,
    "last": 14,
    "which": 15,
    "state": 16,
}


def line(*calls):
    """calls: ("name", station, number or message, ..)."""
    numbers = []
    for call in calls:
        numbers.append(NUMBERS[call[0]])
        for value in call[1:]:
            if isinstance(value, list):
                numbers.append(len(value))
                numbers.extend(value)
            else:
                numbers.append(value)
    return numbers


def apart(given):
    """The answers of each call as a list of its own."""
    rows = []
    place = 0
    while place < len(given):
        count = given[place]
        row = given[place + 1:place + 1 + count]
        if count < 1 or len(row) != count:
            raise AssertionError(f"no whole row at {place}: {given}")
        rows.append(row)
        place += 1 + count
    return rows


def asked(*calls):
    rows = apart(answers(line(*calls)))
    if len(rows) != len(calls):
        raise AssertionError(f"{len(calls)} calls, {len(rows)} answers")
    return rows


def last(*calls):
    return asked(*calls)[-1]


def minutes(station, n):
    """The calls that let n minutes go by."""
    calls = [("minutes", station, 1440)] * (n // 1440)
    if n % 1440:
        calls.append(("minutes", station, n % 1440))
    return calls


def message(drill=1, persons=None, news=None):
    """A message; persons and news tell only those that aren't 0."""
    numbers = [drill] + [0] * 21
    for p, number in (persons or {}).items():
        numbers[1 + p] = number
    for k, minute in (news or {}).items():
        numbers[17 + k] = minute
    return numbers


def code(minute, station):
    return 8 * minute + station + 1


def bits(members):
    return sum(2 ** member for member in members)


def everything(station):
    """Calls that show all that can be asked of a station, but how many messages it has heard."""
    calls = [("tell", station), ("count", station), ("missing", station)]
    calls += [("where", station, p) for p in range(16)]
    calls += [("at", station, k) for k in range(5)] + [("news", station, k) for k in range(5)]
    calls += [("soonest", station, n) for n in range(1, 6)] + [("sure", station, n, 0) for n in range(1, 6)]
    return calls + [("last", station), ("which", station)]


def shown(calls, station):
    """What everything() answers behind these calls."""
    return asked(*calls, *everything(station))[len(calls):]


def whole(calls, station):
    """What everything() and mu_state answer behind these calls."""
    return shown(calls, station) + asked(*calls, ("state", station))[-1:]
