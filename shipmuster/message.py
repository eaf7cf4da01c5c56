"""The 22 numbers of a message: the drill, what is known of each person, the news of each station."""

from shipmuster.limits import LAST_DRILL
from shipmuster.limits import LAST_MINUTE
from shipmuster.limits import PERSONS
from shipmuster.limits import STATIONS


def told_drill(message):
    return message[0]


def told_persons(message):
    return message[1:1 + PERSONS]


def told_news(message):
    return message[1 + PERSONS:]


def coming_in(minute, station):
    """The one number that stands for coming in at this station in this minute."""
    return 8 * minute + station + 1


def minute_of(number):
    return number // 8


def station_of(number):
    return number % 8 - 1


def is_minute(number):
    return 0 <= number <= LAST_MINUTE


def is_person_good(number):
    if number == 0:
        return True
    return 0 <= station_of(number) < STATIONS and is_minute(minute_of(number))


def is_good(message):
    if not 1 <= told_drill(message) <= LAST_DRILL:
        return False
    if not all([is_person_good(number) for number in told_persons(message)]):
        return False
    return all([is_minute(number) for number in told_news(message)])
