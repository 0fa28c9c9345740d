"""Doors: where wishes are refused, or wait for their hours and become jobs."""

from heapq import heappop, heappush

from promptworks.errors import BadWork, NoTask, Past
from promptworks.gates import arrival_of, release_of
from promptworks.jobs import Job


def refuse_hour(now, hour):
    """Refuses an hour, or a tick, ahead of now."""
    if hour < now:
        raise Past(hour)


def refuse_wish(now, hour, is_there, name, work):
    """Refuses a wish for an hour ahead of now, of one that isn't there, or of a work below 1."""
    refuse_hour(now, hour)
    if not is_there:
        raise NoTask(name)
    if work < 1:
        raise BadWork(work)


class Numberer:
    """Makes the jobs of tasks, or of messages, with the gate shut (True) or open."""

    def __init__(self, owners, gate):
        self._owners = {owner.name: owner for owner in owners}
        self._gate = gate
        self._last = {name: None for name in self._owners}

    def knows(self, name):
        """Whether there is a task, or a message, of this name."""
        return name in self._owners

    def job_of(self, hour, name, work):
        """The job of a wish; of one owner the wishes are told in their order."""
        last = self._last[name]
        arrival = arrival_of(self._owners[name], hour, None if last is None else last.arrival)
        job = Job(self._owners[name], 0 if last is None else last.number + 1, arrival,
                  release_of(hour, arrival, self._gate), work)
        self._last[name] = job
        return job


class Door:
    """The wishes of tasks, or of messages, with the gate shut (True) or open."""

    def __init__(self, owners, gate):
        self._numberer = Numberer(owners, gate)
        # A heap: of one owner the lesser hour, then work, comes first.
        self._coming = []

    def tell(self, hour, name, work):
        """Takes in a wish for an hour that no job has been let in for yet."""
        heappush(self._coming, (hour, name, work))

    def let_in(self, hour):
        """The jobs of all wishes for hours below this one that haven't been let in yet."""
        jobs = []
        while self._coming and self._coming[0][0] < hour:
            wished, name, work = heappop(self._coming)
            jobs.append(self._numberer.job_of(wished, name, work))
        return jobs
