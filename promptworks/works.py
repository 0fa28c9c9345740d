"""Works: a plan that is run, from wish to wish, and told of as far as it has come."""

from promptworks.processors import Processor
from promptworks.runs import Run


class Works:
    """A run of a plan, with gate and guard shut (True) or open."""

    def __init__(self, plan, *, gate=True, guard=True):
        self._plan = plan
        self._guard = guard
        self._run = Run(plan.tasks(), gate, Processor(plan, guard))

    def wish(self, hour, task, work):
        """Wishes a job of the task for an hour from now on."""
        self._run.wish(hour, task, work)

    def wishes(self, rows):
        """Wishes several, one by one, up to the first that is refused."""
        for hour, task, work in rows:
            self._run.wish(hour, task, work)

    def run(self, hour):
        """Does all ticks below the hour."""
        self._run.run(hour)

    def now(self):
        """The hour up to which the works have run."""
        return self._run.now()

    def jobs(self):
        """The jobs of wishes for hours below now: (task, number, arrival, release, work, done, end)."""
        return self._run.jobs()

    def struck(self):
        """The jobs that worked their most and weren't done: (task, number)."""
        return self._run.struck()

    def late(self):
        """The jobs that are late by now: (task, number)."""
        return self._run.late()

    def holder(self, lock):
        """Who has the lock now, (task, number), or None."""
        # A plan refuses to tell the ceiling of a lock that isn't there.
        self._plan.ceiling(lock)
        return self._run.holder(lock)

    def trace(self):
        """Who worked when, up to now: (from, to, task, number)."""
        return self._run.trace()

    def plan(self):
        """The plan that is run."""
        return self._plan

    def is_guarded(self):
        """Whether the guard is shut."""
        return self._guard
