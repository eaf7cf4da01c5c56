"""How many there are of each, and how far each is counted."""

STATIONS = 5
PERSONS = 16
LAST_MINUTE = 100000
LAST_DRILL = 1000
MOST_HEARD = 100000
MOST_AT_ONCE = 1440
