"""Processors: the jobs of a plan at work, from change to change."""

from promptworks.jobs import last_tick, locks_of, ticks_on, urgency
from promptworks.queues import Queues


class Processor:
    """What works in the ticks of a plan, with the guard shut (True) or open."""

    def __init__(self, plan, guard):
        self._guard = guard
        self._ceilings = {lock: plan.ceiling(lock) for lock in plan.locks()}
        self._queues = Queues(plan.tasks())
        self._now = 0
        self._trace = []

    def take(self, job):
        """Takes in a job that is released at an hour from now on, behind all others of its task."""
        self._queues.take(job)

    def now(self):
        """The hour up to which it has gone."""
        return self._now

    def jobs(self):
        """All jobs that were taken in, by ranks, then numbers."""
        return self._queues.jobs()

    def trace(self):
        """Who worked when, up to now: (from, to, task, number)."""
        return list(self._trace)

    def holder(self, lock):
        """Who has the lock now, (task, number), or None."""
        for job in self._queues.firsts():
            if lock in locks_of(job):
                return (job.owner.name, job.number)
        return None

    def run(self, hour):
        """Does all ticks below the hour."""
        while self._now < hour:
            self.go(self.change(hour))

    def change(self, hour):
        """The first hour behind now at which somebody else may come to work; at the most this one."""
        marks = [hour] + self._queues.releases(self._now)
        job = self._at_turn()
        if job is not None:
            marks.append(self._now + ticks_on(job, self._guard))
        return min(marks)

    def go(self, hour):
        """Goes on to an hour that isn't behind the change; tells the job that is at its end there, or None."""
        job = self._at_turn()
        begin = self._now
        self._now = hour
        if job is None:
            return None
        job.done += hour - begin
        self._note(begin, job)
        if job.done < last_tick(job, self._guard):
            return None
        self._queues.finish(job, hour)
        return job

    def _at_turn(self):
        """Who works in the tick that begins now."""
        ready = self._queues.ready(self._now)
        if not ready:
            return None
        places = [(urgency(job, self._ceilings), place) for place, job in enumerate(ready)]
        return ready[min(places)[1]]

    def _note(self, begin, job):
        """Notes who worked from begin to now, in one row with what the same job worked straight ahead of it."""
        if self._trace and self._trace[-1][1:] == (begin, job.owner.name, job.number):
            begin = self._trace.pop()[0]
        self._trace.append((begin, self._now, job.owner.name, job.number))
