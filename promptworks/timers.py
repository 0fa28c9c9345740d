"""Timers: works that wish by themselves, each timer again and again."""

from promptworks.doors import refuse_hour, refuse_wish
from promptworks.errors import Every, NoTimer, Twice
from promptworks.works import Works


class Timer:
    """What a timer wishes, and for which hours."""

    def __init__(self, task, first, every, work):
        self._task = task
        self._next = first
        self._every = every
        self._work = work
        self._end = None

    def stop(self, hour):
        """Lets it wish for no hour from this one on, nor from any for which it was stopped ahead."""
        if self._end is None or hour < self._end:
            self._end = hour

    def wishes(self, hour):
        """The wishes for hours below this one that it hasn't told yet."""
        until = hour if self._end is None else min(hour, self._end)
        rows = [(at, self._task, self._work) for at in range(self._next, until, self._every)]
        self._next += len(rows) * self._every
        return rows


class Timed:
    """A run of a plan with timers, with gate and guard shut (True) or open."""

    def __init__(self, plan, *, gate=True, guard=True):
        self._works = Works(plan, gate=gate, guard=guard)
        self._names = {task.name: True for task in plan.tasks()}
        self._timers = {}
        self._wished = []

    def start(self, name, *, task, first, every, work):
        """Starts a timer that wishes the task at its first hour, from now on, and again every so many ticks."""
        refuse_wish(self.now(), first, task in self._names, task, work)
        if every < 1:
            raise Every(every)
        if name in self._timers:
            raise Twice(name)
        self._timers[name] = Timer(task, first, every, work)

    def stop(self, name, hour):
        """Stops a timer for an hour from now on: it wishes up to but not at it."""
        refuse_hour(self.now(), hour)
        if name not in self._timers:
            raise NoTimer(name)
        self._timers[name].stop(hour)

    def wished(self):
        """The wishes that timers made for hours below now, by hours, tasks, works."""
        return sorted(self._wished)

    def wish(self, hour, task, work):
        """Wishes a job of the task by hand, for an hour from now on."""
        self._works.wish(hour, task, work)

    def run(self, hour):
        """Does all ticks below the hour."""
        refuse_hour(self.now(), hour)
        for timer in self._timers.values():
            rows = timer.wishes(hour)
            self._works.wishes(rows)
            self._wished.extend(rows)
        self._works.run(hour)

    def now(self):
        """The hour up to which it has run."""
        return self._works.now()

    def jobs(self):
        """The jobs of wishes for hours below now: (task, number, arrival, release, work, done, end)."""
        return self._works.jobs()

    def struck(self):
        """The jobs that worked their most and weren't done: (task, number)."""
        return self._works.struck()

    def late(self):
        """The jobs that are late by now: (task, number)."""
        return self._works.late()

    def trace(self):
        """Who worked when, up to now: (from, to, task, number)."""
        return self._works.trace()
