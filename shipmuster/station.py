"""What one station keeps, and what hearing a message does to it."""

from shipmuster.limits import MOST_HEARD
from shipmuster.limits import PERSONS
from shipmuster.limits import STATIONS
from shipmuster.message import coming_in
from shipmuster.message import told_drill
from shipmuster.message import told_news
from shipmuster.message import told_persons


class Station:
    def __init__(self):
        self.begin(0)

    def begin(self, me):
        self.me = me
        self.minute = 0
        self.heard = 0
        self.enter_drill(0)

    def enter_drill(self, drill):
        self.drill = drill
        self.known = [0] * PERSONS
        # The place of the station itself stays 0: its news of itself are always the minute now.
        self.others_news = [0] * STATIONS

    def here_and_now(self):
        return coming_in(self.minute, self.me)

    def news(self):
        minutes = list(self.others_news)
        minutes[self.me] = self.minute
        return minutes

    def message_now(self):
        return [self.drill] + self.known + self.news()

    def would_learn(self, message):
        """Of how many persons something else would be known behind this good message."""
        drill = told_drill(message)
        if drill < self.drill:
            return 0
        told = told_persons(message)
        if drill > self.drill:
            # It would be joined with nothing known, so whoever is told of counts.
            return sum([1 for number in told if number > 0])
        return sum([1 for p in range(PERSONS) if told[p] > self.known[p]])

    def hear(self, message):
        """Take in a good message; answer of how many persons something else is known now."""
        changed = self.would_learn(message)
        self.heard = min(self.heard + 1, MOST_HEARD)
        drill = told_drill(message)
        if drill > self.drill:
            self.enter_drill(drill)
        if drill == self.drill:
            self.learn_persons(told_persons(message))
            self.learn_news(told_news(message))
        return changed

    def learn_persons(self, told):
        for p in range(PERSONS):
            self.known[p] = max(self.known[p], told[p])

    def learn_news(self, told):
        for k in range(STATIONS):
            # No one else can know more of this station than it does itself, whatever they tell.
            if k != self.me:
                self.others_news[k] = max(self.others_news[k], told[k])
