"""Senders: the messages of a bus being sent, from change to change."""

from heapq import heappop, heappush

from promptworks.queues import Queues


class Sender:
    """What is sent on a bus in each tick, one at a time, with spoils."""

    def __init__(self, bus):
        self._queues = Queues(bus.messages())
        self._now = 0
        # Ticks from now on, a heap.
        self._spoils = []
        self._going = None
        self._begin = 0
        self._sendings = []

    def take(self, job):
        """Takes in a message that is released at an hour from now on, behind all others of its name."""
        self._queues.take(job)

    def spoil(self, tick):
        """Takes in a spoil at a tick from now on."""
        heappush(self._spoils, tick)

    def now(self):
        """The hour up to which it has gone."""
        return self._now

    def jobs(self):
        """All messages that were taken in, by ranks, then numbers."""
        return self._queues.jobs()

    def sendings(self):
        """What was sent when, up to now: (from, to, message, number, word)."""
        rows = list(self._sendings)
        if self._going is not None:
            rows.append((self._begin, self._now, self._going.owner.name, self._going.number, "going"))
        return rows

    def run(self, hour):
        """Does all ticks below the hour."""
        while self._now < hour:
            self.go(self.change(hour))

    def change(self, hour):
        """The first hour behind now at which another may begin to be sent; at the most this one."""
        job = self._at_turn()
        marks = [hour] + [tick + 1 for tick in self._spoils[:1]]
        if job is None:
            marks.extend(self._queues.releases(self._now))
        else:
            marks.append(self._begin_of_turn() + job.owner.most)
        return min(marks)

    def go(self, hour):
        """Goes on to an hour that isn't behind the change; tells the message that is sent by then, or None."""
        job = self._at_turn()
        self._begin = self._begin_of_turn()
        self._going = job
        self._now = hour
        is_spoiled = self._drop_spoils()
        if job is None:
            return None
        # A spoil is a change: where there was one it was at the last tick.
        if is_spoiled:
            self._note("spoiled")
            return None
        if hour < self._begin + job.owner.most:
            return None
        self._note("sent")
        job.done = job.work
        self._queues.finish(job, hour)
        return job

    def _at_turn(self):
        """What is sent in the tick that begins now."""
        if self._going is not None:
            return self._going
        ready = self._queues.ready(self._now)
        if not ready:
            return None
        # They stand by ranks.
        return ready[0]

    def _begin_of_turn(self):
        if self._going is None:
            return self._now
        return self._begin

    def _drop_spoils(self):
        """Drops the spoils at ticks below now; tells whether there were some."""
        is_spoiled = False
        while self._spoils and self._spoils[0] < self._now:
            heappop(self._spoils)
            is_spoiled = True
        return is_spoiled

    def _note(self, word):
        """Notes how what was going came to its end now."""
        self._sendings.append((self._begin, self._now, self._going.owner.name, self._going.number, word))
        self._going = None
