"""What one station keeps, and what hearing a message does to it."""

from shipmuster.limits import MOST_HEARD
from shipmuster.limits import PERSONS
from shipmuster.limits import STATIONS
from shipmuster.message import coming_in
from shipmuster.message import told_drill
from shipmuster.message import told_news
from shipmuster.message import told_persons


class Station:
    def __init__(self):
        self.begin(0)

    def begin(self, me):
        self.me = me
        self.minute = 0
        self.heard = 0
        self.enter_drill(0)

    def enter_drill(self, drill):
        self.drill = drill
        self.known = [0] * PERSONS
        # The place of the station itself stays 0: its news of itself are always the minute now.
        self.others_news = [0] * STATIONS

    def here_and_now(self):
        return coming_in(self.minute, self.me)

    def news(self):
        minutes = list(self.others_news)
        minutes[self.me] = self.minute
        return minutes

    def message_now(self):
        return [self.drill] + self.known + self.news()

    def hear(self, message):
        """Take in a good message; answer of how many persons something else is known now."""
        self.heard = min(self.heard + 1, MOST_HEARD)
        drill = told_drill(message)
        if drill < self.drill:
            return 0
        if drill > self.drill:
            self.enter_drill(drill)
        self.learn_news(told_news(message))
        return self.learn_persons(told_persons(message))

    def learn_news(self, told):
        for k in range(STATIONS):
            # No one else can know more of this station than it does itself, whatever they tell.
            if k != self.me:
                self.others_news[k] = max(self.others_news[k], told[k])

    def learn_persons(self, told):
        changed = 0
        for p in range(PERSONS):
            if told[p] > self.known[p]:
                self.known[p] = told[p]
                changed += 1
        return changed
