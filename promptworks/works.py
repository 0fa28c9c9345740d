"""Works: a plan that is run, from wish to wish, and told of as far as it has come."""

from heapq import heappop, heappush

from promptworks.errors import BadWork, NoLock, NoTask, Past
from promptworks.gates import arrival_of, release_of
from promptworks.jobs import Job, is_late, is_struck, last_tick, locks_of, ticks_on, urgency


class Works:
    """A run of a plan, with gate and guard shut (True) or open."""

    def __init__(self, plan, *, gate=True, guard=True):
        self._gate = gate
        self._guard = guard
        self._now = 0
        self._owners = {task.name: task for task in plan.tasks()}
        self._ceilings = {lock: plan.ceiling(lock) for lock in plan.locks()}
        # Wishes for hours from now on, a heap: of one task the lesser hour, then work, comes first.
        self._coming = []
        self._let_in = {name: [] for name in self._owners}
        self._ended = {name: 0 for name in self._owners}
        self._trace = []

    def wish(self, hour, task, work):
        """Wishes a job of the task for an hour from now on."""
        if hour < self._now:
            raise Past(hour)
        if task not in self._owners:
            raise NoTask(task)
        if work < 1:
            raise BadWork(work)
        heappush(self._coming, (hour, task, work))

    def wishes(self, rows):
        """Wishes several, one by one, up to the first that is refused."""
        for hour, task, work in rows:
            self.wish(hour, task, work)

    def run(self, hour):
        """Does all ticks below the hour."""
        if hour < self._now:
            raise Past(hour)
        while self._coming and self._coming[0][0] < hour:
            self._let_next_in()
        while self._now < hour:
            self._go_on(hour)

    def now(self):
        """The hour up to which the works have run."""
        return self._now

    def jobs(self):
        """The jobs of wishes for hours below now: (task, number, arrival, release, work, done, end)."""
        return [(job.owner.name, job.number, job.arrival, job.release, job.work, job.done, job.end)
                for job in self._all_jobs()]

    def struck(self):
        """The jobs that worked their most and weren't done: (task, number)."""
        return [(job.owner.name, job.number) for job in self._all_jobs() if is_struck(job)]

    def late(self):
        """The jobs that are late by now: (task, number)."""
        return [(job.owner.name, job.number) for job in self._all_jobs() if is_late(job, self._now)]

    def holder(self, lock):
        """Who has the lock now, (task, number), or None."""
        if lock not in self._ceilings:
            raise NoLock(lock)
        for job in self._first_jobs():
            if lock in locks_of(job):
                return (job.owner.name, job.number)
        return None

    def trace(self):
        """Who worked when, up to now: (from, to, task, number)."""
        return list(self._trace)

    def _let_next_in(self):
        hour, name, work = heappop(self._coming)
        row = self._let_in[name]
        last = row[-1].arrival if row else None
        arrival = arrival_of(self._owners[name], hour, last)
        release = release_of(hour, arrival, self._gate)
        row.append(Job(self._owners[name], len(row), arrival, release, work))

    def _all_jobs(self):
        return [job for row in self._let_in.values() for job in row]

    def _first_jobs(self):
        """Of each task the first job that isn't at its end: the later ones are not released ahead of it
        and never more urgent, so none of them works."""
        return [row[self._ended[name]] for name, row in self._let_in.items() if self._ended[name] < len(row)]

    def _go_on(self, hour):
        """Goes on to where somebody else may come to work, at most to the hour."""
        firsts = self._first_jobs()
        until = min([hour] + [job.release for job in firsts if job.release > self._now])
        ready = [job for job in firsts if job.release <= self._now]
        if not ready:
            self._now = until
            return
        places = [(urgency(job, self._ceilings), place) for place, job in enumerate(ready)]
        self._let_work(ready[min(places)[1]], until)

    def _let_work(self, job, until):
        begin = self._now
        ticks = min(until - begin, ticks_on(job, self._guard))
        self._now = begin + ticks
        job.done += ticks
        if job.done == last_tick(job, self._guard):
            job.end = self._now
            self._ended[job.owner.name] += 1
        self._note(begin, job)

    def _note(self, begin, job):
        """Notes who worked from begin to now, in one row with what the same job worked straight ahead of it."""
        if self._trace and self._trace[-1][1:] == (begin, job.owner.name, job.number):
            begin = self._trace.pop()[0]
        self._trace.append((begin, self._now, job.owner.name, job.number))
