"""The calls on three stations, one behind another, and what they answer.

Each call takes its station and the numbers that stand behind it, and answers a list: the number
that is answered first, then what else is answered. A refusal is one number below 0, alone.
"""

from shipmuster.limits import LAST_DRILL
from shipmuster.limits import LAST_MINUTE
from shipmuster.limits import MOST_AT_ONCE
from shipmuster.limits import PERSONS
from shipmuster.limits import STATIONS
from shipmuster.message import is_good
from shipmuster.message import is_minute
from shipmuster.message import minute_of
from shipmuster.message import station_of
from shipmuster.station import Station


def is_person(p):
    return 0 <= p < PERSONS


def is_station(k):
    return 0 <= k < STATIONS


def is_some_stations(n):
    """Whether one can speak of the first n stations."""
    return 1 <= n <= STATIONS


def message_in(numbers):
    """The message behind the number that tells how long it is."""
    return numbers[1:]


def count_and_bits(flags):
    """How many flags are True, and which, as bits: the first flag is the lowest bit."""
    count = 0
    bits = 0
    bit = 1
    for flag in flags:
        if flag:
            count += 1
            bits += bit
        bit = 2 * bit
    return [count, bits]


def who_is_in(station):
    return count_and_bits([number != 0 for number in station.known])


def who_is_not_in(station):
    return count_and_bits([number == 0 for number in station.known])


def mu_start(station, numbers):
    me = numbers[0]
    if not is_station(me):
        return [-22]
    station.begin(me)
    return [0]


def mu_minutes(station, numbers):
    n = numbers[0]
    if not 1 <= n <= MOST_AT_ONCE:
        return [-22]
    if station.minute + n > LAST_MINUTE:
        return [-75]
    station.minute += n
    return [station.minute]


def mu_drill(station, numbers):
    if station.drill == LAST_DRILL:
        return [-28]
    station.enter_drill(station.drill + 1)
    return [station.drill]


def mu_in(station, numbers):
    p = numbers[0]
    if not is_person(p):
        return [-2]
    if station.drill == 0:
        return [-6]
    before = station.known[p]
    if before >= station.here_and_now():
        return [-17]
    station.known[p] = station.here_and_now()
    return [before]


def mu_tell(station, numbers):
    if station.drill == 0:
        return [-6]
    return [who_is_in(station)[0]] + station.message_now()


def mu_hear(station, numbers):
    message = message_in(numbers)
    if not is_good(message):
        return [-71]
    changed = station.hear(message)
    return [changed, station.drill]


def mu_where(station, numbers):
    p = numbers[0]
    if not is_person(p):
        return [-2]
    number = station.known[p]
    if number == 0:
        return [-6]
    return [station_of(number), minute_of(number)]


def mu_count(station, numbers):
    return who_is_in(station)


def mu_missing(station, numbers):
    if station.drill == 0:
        return [-6]
    return who_is_not_in(station)


def mu_at(station, numbers):
    k = numbers[0]
    if not is_station(k):
        return [-2]
    return count_and_bits([number != 0 and station_of(number) == k for number in station.known])


def mu_sure(station, numbers):
    n = numbers[0]
    t = numbers[1]
    if not is_some_stations(n) or not is_minute(t):
        return [-22]
    if station.drill == 0:
        return [-6]
    # News of minute t leave open who came in during it: only later ones tell of all of it.
    if min(station.news()[:n]) <= t:
        return [-13]
    return who_is_not_in(station)


def mu_news(station, numbers):
    k = numbers[0]
    if not is_station(k):
        return [-2]
    return [station.news()[k]]


def mu_soonest(station, numbers):
    n = numbers[0]
    if not is_some_stations(n):
        return [-22]
    minutes = station.news()[:n]
    earliest = min(minutes)
    return [earliest, count_and_bits([minute == earliest for minute in minutes])[1]]


def mu_new(station, numbers):
    message = message_in(numbers)
    if not is_good(message):
        return [-71]
    return [station.would_learn(message)]


def mu_last(station, numbers):
    latest = max(station.known)
    if latest == 0:
        return [-6]
    # Like numbers are like minutes at one station, so only the greater person is left to choose.
    who = max([p for p in range(PERSONS) if station.known[p] == latest])
    return [who, minute_of(latest), station_of(latest)]


def mu_which(station, numbers):
    if station.drill == 0:
        return [-6]
    return [station.drill]


def mu_state(station, numbers):
    return [station.minute, station.me, station.drill, station.heard]


# A call's number in the interface is its place in these.
CALLS = (
    mu_start, mu_minutes, mu_drill, mu_in, mu_tell, mu_hear, mu_where, mu_count, mu_missing,
    mu_at, mu_sure, mu_news, mu_soonest, mu_new, mu_last, mu_which, mu_state,
)
WHOLE_NUMBERS = (1, 1, 0, 1, 0, 0, 1, 0, 0, 1, 2, 1, 1, 0, 0, 0, 0)
ROWS = (0, 0, 0, 0, 0, 1, 0, 0, 0, 0, 0, 0, 0, 1, 0, 0, 0)


def end_of_call(calls, place):
    """Where the call that begins at this place ends: the place of the next one."""
    number = calls[place]
    end = place + 2 + WHOLE_NUMBERS[number]
    if ROWS[number] == 1:
        end += 1 + calls[end]
    return end


def answers(calls):
    stations = [Station(), Station(), Station()]
    given = []
    place = 0
    while place < len(calls):
        end = end_of_call(calls, place)
        call = CALLS[calls[place]]
        answered = call(stations[calls[place + 1]], calls[place + 2:end])
        given.append(len(answered))
        given.extend(answered)
        place = end
    return given
