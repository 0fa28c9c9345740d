"""Processors: the jobs of a plan at work, from change to change."""

from promptworks.jobs import due_of, last_tick, locks_of, name_of, section_ends, urgency
from promptworks.queues import Queues


class Processor:
    """What works in the ticks of a plan, with the guard shut (True) or open."""

    def __init__(self, plan, guard):
        self._guard = guard
        self._ceilings = {lock: plan.ceiling(lock) for lock in plan.locks()}
        self._queues = Queues(plan.tasks())
        self._now = 0
        self._trace = []

    def take(self, job):
        """Takes in a job that is released at an hour from now on, behind all others of its task."""
        self._queues.take(job)

    def now(self):
        """The hour up to which it has gone."""
        return self._now

    def jobs(self):
        """All jobs that were taken in, by ranks, then numbers."""
        return self._queues.jobs()

    def trace(self):
        """Who worked when, up to now: (from, to, task, number)."""
        return list(self._trace)

    def holder(self, lock):
        """Who has the lock now, (task, number), or None."""
        for job in self._queues.firsts():
            if lock in locks_of(job):
                return name_of(job)
        return None

    def is_idle(self):
        """Whether all jobs that were taken in are at their end."""
        return not self._queues.firsts()

    def run(self, hour):
        """Does all ticks below the hour."""
        while self._now < hour:
            self.go(self.change(hour))

    def run_out(self, hour):
        """Does all ticks up to where all jobs are at their end, none from the hour on."""
        while self._now < hour and not self.is_idle():
            self.go(self.change(hour))

    def change(self, hour):
        """The first hour behind now at which somebody else may come to work; at the most this one."""
        marks = [hour] + self._queues.releases(self._now)
        job = self._at_turn()
        if job is not None:
            marks.append(self._now + min([mark - job.done for mark in self.marks_of(job) if mark > job.done]))
        return min(marks)

    def go(self, hour):
        """Goes on to an hour that isn't behind the change; tells the job that is at its end there, or None."""
        job = self._at_turn()
        begin = self._now
        self._now = hour
        if job is None:
            return None
        job.done += hour - begin
        self._note(begin, job)
        if job.done < self.last_of(job):
            return None
        self._queues.finish(job, hour)
        return job

    def place_of(self, job):
        """What is least for the job that works."""
        return urgency(job, self._ceilings)

    def last_of(self, job):
        """How many ticks the job may work in all."""
        return last_tick(job, self._guard)

    def marks_of(self, job):
        """Behind how many ticks of the job others may come to work, its last one among them."""
        # Where it takes a section it only gets more urgent: nobody else comes to work there.
        return section_ends(job) + [self.last_of(job)]

    def _at_turn(self):
        """Who works in the tick that begins now."""
        ready = self._queues.ready(self._now)
        if not ready:
            return None
        places = [(self.place_of(job), place) for place, job in enumerate(ready)]
        return ready[min(places)[1]]

    def _note(self, begin, job):
        """Notes who worked from begin to now, in one row with what the same job worked straight ahead of it."""
        if self._trace and self._trace[-1][1:] == (begin,) + name_of(job):
            begin = self._trace.pop()[0]
        self._trace.append((begin, self._now) + name_of(job))


class DueProcessor(Processor):
    """What works in the ticks of a plan of tasks without sections, by dues in the place of ranks."""

    def place_of(self, job):
        """What is least for the job that works."""
        return (due_of(job), job.owner.rank, job.number)
