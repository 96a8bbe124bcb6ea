"""One task: its phase, and what is wanted of it when it is looked at."""

WAITS = 0
RUNS = 1
STANDS = 2

NOTED = 0
STARTED_AGAIN = 1

START = 0
STOP = 1
NOTE = 2
ANEW = 3
FEED = 4
GIVE_UP = 5

MOST_WAITS = 64


class Task:
    def __init__(self, limit, rank, most, span, first, main, now):
        self.limit = limit
        self.rank = rank
        self.most = most
        self.span = span
        self.first = first
        self.main = main
        self.phase = WAITS
        # When it is due while it waits, since when it runs, 0 while it stands.
        self.moment = now
        self.heard = now
        self.place = 0
        self.late = False
        self.wait = first
        self.times = []

    def enter(self, phase, moment):
        self.phase = phase
        self.moment = moment

    def stand(self):
        self.enter(STANDS, 0)

    def halt(self):
        self.stand()
        self.late = False

    def is_overdue(self, now):
        return self.phase == RUNS and self.heard + self.limit <= now

    def times_of_late(self, now):
        return [then for then in self.times if then + self.span > now]

    # Each look gives back the things wanted of this task, by their numbers.
    def look_at(self, now):
        if not self.is_overdue(now):
            return self.look_in_time(now)
        if self.rank == NOTED:
            return self.turn_late(NOTE)
        if self.rank == STARTED_AGAIN:
            return self.stop_silent(now)
        return self.turn_late(ANEW)

    def turn_late(self, thing):
        if self.late:
            return []
        self.late = True
        return [thing]

    def stop_silent(self, now):
        self.times = self.times_of_late(now)
        if len(self.times) >= self.most:
            self.stand()
            return [STOP, GIVE_UP]
        self.enter(WAITS, now + self.wait)
        self.times.append(now)
        self.wait = min(self.wait * 2, self.first * MOST_WAITS)
        return [STOP]

    def look_in_time(self, now):
        if self.phase == WAITS and self.moment <= now:
            self.enter(RUNS, now)
            self.heard = now
            self.late = False
            return [START]
        if self.phase == RUNS and self.moment + self.span <= now:
            self.wait = self.first
        return []

    def hear(self, place, now):
        was_late = self.late
        self.heard = now
        self.place = place
        self.late = False
        return was_late

    def wait_afresh(self, now):
        self.enter(WAITS, now)
        self.late = False
        self.wait = self.first
        self.times = []

    def shown(self, now):
        # A time that is no longer of late stays here till the watcher stops the task, so it is left out on the spot.
        times = self.times_of_late(now)
        late = 1 if self.late else 0
        return [self.phase, self.moment, self.heard, self.place, late, self.wait, len(times)] + times
