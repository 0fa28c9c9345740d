"""Runs: wishes let in by a door and worked by a processor, and told of as far as they have come."""

from promptworks.doors import Door, refuse_hour, refuse_wish
from promptworks.jobs import is_late, is_struck, name_of, row_of


class Run:
    """A run of tasks by a processor, with the gate shut (True) or open."""

    def __init__(self, tasks, gate, processor):
        self._names = {task.name: True for task in tasks}
        self._door = Door(tasks, gate)
        self._processor = processor

    def wish(self, hour, task, work):
        """Wishes a job of the task for an hour from now on."""
        refuse_wish(self.now(), hour, task in self._names, task, work)
        self._door.tell(hour, task, work)

    def run(self, hour):
        """Does all ticks below the hour."""
        refuse_hour(self.now(), hour)
        for job in self._door.let_in(hour):
            self._processor.take(job)
        self._processor.run(hour)

    def now(self):
        """The hour up to which it has run."""
        return self._processor.now()

    def jobs(self):
        """The jobs of wishes for hours below now: (task, number, arrival, release, work, done, end)."""
        return [row_of(job) for job in self._processor.jobs()]

    def struck(self):
        """The jobs that worked all that they may and weren't done: (task, number)."""
        return [name_of(job) for job in self._processor.jobs() if is_struck(job)]

    def dropped(self):
        """The jobs that were dropped: (task, number)."""
        return [name_of(job) for job in self._processor.jobs() if job.is_dropped]

    def late(self):
        """The jobs that are late by now: (task, number)."""
        return [name_of(job) for job in self._processor.jobs() if is_late(job, self.now())]

    def holder(self, lock):
        """Who has the lock now, (task, number), or None."""
        return self._processor.holder(lock)

    def trace(self):
        """Who worked when, up to now: (from, to, task, number)."""
        return self._processor.trace()
