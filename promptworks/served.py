"""Served requests: a task of a plan that works for requests, each told at once by when it is done."""

from promptworks.bounds import bound
from promptworks.doors import refuse_hour
from promptworks.errors import BadWork, NoBound, NoTask
from promptworks.works import Works


class Stretch:
    """Wishes of the serving task, each a gap behind the one ahead, all of them but the last of its most."""

    def __init__(self, task, begin):
        self._task = task
        self._begin = begin
        self._ticks = 0
        self._wished = 0

    def lengthen(self, ticks):
        """Adds ticks behind all others."""
        self._ticks += ticks

    def last(self):
        """The hour of the last wish."""
        return self._hour_of(self._ticks - 1)

    def wishes(self, hour):
        """The wishes for hours below this one that it hasn't told yet."""
        rows = []
        while self._wished < self._ticks and self._hour_of(self._wished) < hour:
            work = min(self._task.most, self._ticks - self._wished)
            rows.append((self._hour_of(self._wished), self._task.name, work))
            self._wished += work
        return rows

    def _hour_of(self, tick):
        """The hour of the wish that has this tick, numbered from 0 on."""
        return self._begin + tick // self._task.most * self._task.gap


class Served:
    """A run of a plan of which a task serves requests, with gate and guard shut."""

    def __init__(self, plan, name):
        self._task = plan.task(name)
        self._bound = bound(plan, name)
        self._works = Works(plan)
        self._requests = []
        self._stretches = []

    def request(self, hour, ticks):
        """Requests so many ticks for an hour from now on, none below the last one's; tells by when it is done."""
        refuse_hour(max([self.now()] + [row[0] for row in self._requests[-1:]]), hour)
        if ticks < 1:
            raise BadWork(ticks)
        if self._bound is None:
            raise NoBound(self._task.name)
        promised = self._add(hour, ticks) + self._bound
        self._requests.append((hour, ticks, promised))
        return promised

    def wish(self, hour, task, work):
        """Wishes a job of another task for an hour from now on."""
        refuse_hour(self.now(), hour)
        if task == self._task.name:
            raise NoTask(task)
        self._works.wish(hour, task, work)

    def run(self, hour):
        """Does all ticks below the hour."""
        refuse_hour(self.now(), hour)
        for stretch in self._stretches:
            self._works.wishes(stretch.wishes(hour))
        # What has been wished to its end takes in no request more: the next one is for a later wish.
        self._stretches = [stretch for stretch in self._stretches if stretch.last() >= hour]
        self._works.run(hour)

    def now(self):
        """The hour up to which it has run."""
        return self._works.now()

    def requests(self):
        """All requests: (hour, ticks, promised, done), done the hour behind the last tick, or None."""
        rows = [row for row in self._works.trace() if row[2] == self._task.name]
        totals = []
        asked = 0
        for request in self._requests:
            asked += request[1]
            totals.append(asked)
        return [request + (done,) for request, done in zip(self._requests, hours_behind(rows, totals))]

    def jobs(self):
        """The jobs of wishes for hours below now: (task, number, arrival, release, work, done, end)."""
        return self._works.jobs()

    def _add(self, hour, ticks):
        """Adds the ticks of a request behind those of all others; tells the hour of the wish that has the last one."""
        begin = -(-hour // self._task.gap) * self._task.gap
        if not self._stretches or self._stretches[-1].last() < begin:
            self._stretches.append(Stretch(self._task, begin))
        self._stretches[-1].lengthen(ticks)
        return self._stretches[-1].last()


def hours_behind(rows, totals):
    """For rising numbers of ticks the hours behind the last of so many in a trace's rows; None where these are less."""
    told = []
    place = 0
    ahead = 0
    for total in totals:
        while place < len(rows) and ahead + rows[place][1] - rows[place][0] < total:
            ahead += rows[place][1] - rows[place][0]
            place += 1
        told.append(rows[place][0] + total - ahead if place < len(rows) else None)
    return told
