"""Works: a plan that is run, from wish to wish, and told of as far as it has come."""

from promptworks.doors import Door, refuse_hour, refuse_wish
from promptworks.jobs import is_late, is_struck, row_of
from promptworks.processors import Processor


class Works:
    """A run of a plan, with gate and guard shut (True) or open."""

    def __init__(self, plan, *, gate=True, guard=True):
        self._plan = plan
        self._guard = guard
        self._names = {task.name: True for task in plan.tasks()}
        self._door = Door(plan.tasks(), gate)
        self._processor = Processor(plan, guard)

    def wish(self, hour, task, work):
        """Wishes a job of the task for an hour from now on."""
        refuse_wish(self.now(), hour, task in self._names, task, work)
        self._door.tell(hour, task, work)

    def wishes(self, rows):
        """Wishes several, one by one, up to the first that is refused."""
        for hour, task, work in rows:
            self.wish(hour, task, work)

    def run(self, hour):
        """Does all ticks below the hour."""
        refuse_hour(self.now(), hour)
        for job in self._door.let_in(hour):
            self._processor.take(job)
        self._processor.run(hour)

    def now(self):
        """The hour up to which the works have run."""
        return self._processor.now()

    def jobs(self):
        """The jobs of wishes for hours below now: (task, number, arrival, release, work, done, end)."""
        return [row_of(job) for job in self._processor.jobs()]

    def struck(self):
        """The jobs that worked their most and weren't done: (task, number)."""
        return [(job.owner.name, job.number) for job in self._processor.jobs() if is_struck(job)]

    def late(self):
        """The jobs that are late by now: (task, number)."""
        return [(job.owner.name, job.number) for job in self._processor.jobs() if is_late(job, self.now())]

    def holder(self, lock):
        """Who has the lock now, (task, number), or None."""
        # A plan refuses to tell the ceiling of a lock that isn't there.
        self._plan.ceiling(lock)
        return self._processor.holder(lock)

    def trace(self):
        """Who worked when, up to now: (from, to, task, number)."""
        return self._processor.trace()

    def plan(self):
        """The plan that is run."""
        return self._plan

    def is_guarded(self):
        """Whether the guard is shut."""
        return self._guard
