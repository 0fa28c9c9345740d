"""The earliest due first: tasks that work by dues in the place of ranks, and the demand by which they are kept."""

from heapq import heappop, heappush
from math import lcm

from promptworks.bounds import comings
from promptworks.errors import Sections, Waits
from promptworks.processors import DueProcessor
from promptworks.runs import Run


def need_plain(plan):
    """Refuses a plan with sections, then one with waits, by the most urgent task that has some."""
    for task in plan.tasks():
        if task.sections:
            raise Sections(task.name)
    for task in plan.tasks():
        if task.wait > 0:
            raise Waits(task.name)


def demand(plan, ticks):
    """How much work may arrive, and be due, within so many ticks."""
    need_plain(plan)
    return sum([task.most * ((ticks - task.due) // task.gap + 1) for task in plan.tasks() if task.due <= ticks])


def demand_paper(plan):
    """("kept", ticks) where no demand is above its ticks, else ("late", ticks) of the least whose demand is."""
    need_plain(plan)
    tasks = plan.tasks()
    until = None
    if not is_overfull(tasks):
        until = busy_ticks(tasks)
    late = first_late(tasks, until)
    if late is not None:
        return ("late", late)
    return ("kept", until)


def is_overfull(tasks):
    """Whether the sum of most / gap is above 1."""
    whole = 1
    for task in tasks:
        whole = lcm(whole, task.gap)
    return sum([task.most * (whole // task.gap) for task in tasks]) > whole


def busy_ticks(tasks):
    """The least number from 1 on that is all that is wished within it; 0 without tasks. Not of overfull ones."""
    ticks = min(1, len(tasks))
    while True:
        # There are no waits here: as many come as there are gaps begun.
        more = sum([task.most * comings(task, ticks) for task in tasks])
        if more == ticks:
            return ticks
        ticks = more


def first_late(tasks, until):
    """The least number of ticks whose demand is above it, None where there is none up to a number (None: any)."""
    # The demand grows at dues alone. Of the tasks, by their places, the heap has the next ones.
    dues = []
    for place, task in enumerate(tasks):
        heappush(dues, (task.due, place))
    asked = 0
    while dues:
        ticks, place = heappop(dues)
        if until is not None and ticks > until:
            return None
        asked += tasks[place].most
        if asked > ticks:
            return ticks
        heappush(dues, (ticks + tasks[place].gap, place))
    return None


class Earliest:
    """A run of a plan by dues, with gate and guard shut (True) or open."""

    def __init__(self, plan, *, gate=True, guard=True):
        need_plain(plan)
        self._run = Run(plan.tasks(), gate, DueProcessor(plan, guard))

    def wish(self, hour, task, work):
        """Wishes a job of the task for an hour from now on."""
        self._run.wish(hour, task, work)

    def wishes(self, rows):
        """Wishes several, one by one, up to the first that is refused."""
        for hour, task, work in rows:
            self._run.wish(hour, task, work)

    def run(self, hour):
        """Does all ticks below the hour."""
        self._run.run(hour)

    def now(self):
        """The hour up to which it has run."""
        return self._run.now()

    def jobs(self):
        """The jobs of wishes for hours below now: (task, number, arrival, release, work, done, end)."""
        return self._run.jobs()

    def struck(self):
        """The jobs that worked their most and weren't done: (task, number)."""
        return self._run.struck()

    def late(self):
        """The jobs that are late by now: (task, number)."""
        return self._run.late()

    def trace(self):
        """Who worked when, up to now: (from, to, task, number)."""
        return self._run.trace()
