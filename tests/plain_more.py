"""Plain machines of houses, works by dues, served requests and two worths, that go tick by tick."""

from plain import PlainRun, plain_bound, plain_jobs, random_plan
from promptworks.plans import Plan
from promptworks.tasks import Task


class PlainHouse:
    """A house up to an hour: plans are lists of tasks by names, wishes and changes all those ever told."""

    def __init__(self, plans, first, wishes, changes, hour):
        self.plans = plans
        self.hour = hour
        self.asked = dict(changes)
        self.changes = []
        self.dropped = []
        self.rows = []
        self.name = first
        rest = [(wished, name, work, wished) for wished, name, work in wishes]
        begin = 0
        while begin is not None:
            rest, begin = self.term(rest, begin)

    def term(self, rest, begin):
        """One plan from its beginning on: what is held of the wishes, and the next beginning, None where not yet."""
        number = len(self.changes)
        tasks = self.plans[self.name]
        end = min([c for c in self.asked if c > begin or (number == 0 and c == 0)], default=None)
        jobs = self.jobs_of(tasks, rest)
        ours = [job for job in jobs if end is None or (job.hour < end and job.arrival <= end)]
        tick = begin
        while tick < self.hour and not (end is not None and tick >= end and all(job.end is not None for job in ours)):
            self.work(tasks, ours, tick)
            tick += 1
        self.rows += [(number, job.task.name, job.number, job.arrival, job.release, job.work, job.done, job.end)
                      for job in ours if job.hour < self.hour and job.arrival < self.hour]
        names = [task.name for task in tasks]
        strange = [row for row in rest if row[1] not in names and (end is None or row[0] < end)]
        self.dropped += [(row[3],) + row[1:3] for row in strange if row[0] < self.hour]
        if tick == self.hour:
            return None, None
        self.changes.append((end, tick, self.asked[max(c for c in self.asked if c <= tick)]))
        self.name = self.changes[-1][2]
        gone = [job.row for job in ours] + strange
        held = [row for row in rest if not any(row is other for other in gone)]
        return [(max(tick, row[0]),) + row[1:] for row in held], tick

    def jobs_of(self, tasks, rest):
        jobs = []
        for task in sorted(tasks, key=lambda task: task.rank):
            rows = sorted((row for row in rest if row[1] == task.name), key=lambda row: (row[0], row[2], row[3]))
            own = plain_jobs([task], [row[:3] for row in rows], True)
            for job, row in zip(own, rows):
                job.row = row
            jobs += own
        return jobs

    def work(self, tasks, jobs, tick):
        run = PlainRun.__new__(PlainRun)
        run.tasks = tasks
        ready = [job for job in jobs if job.release <= tick and job.end is None]
        if ready:
            job = min(ready, key=run.place)
            job.done += 1
            if job.done in (job.work, job.task.most):
                job.end = tick + 1

    def told(self):
        return (self.hour, self.name, self.changes, sorted(self.dropped), self.rows)


class PlainEarliest(PlainRun):
    """The run of the wishes by dues."""

    def place(self, job):
        return (job.arrival + job.task.due, job.task.rank, job.number)


def plain_demand(tasks, ticks):
    """How many ticks are wished from 0 on and due within so many, arrival by arrival."""
    total = 0
    for task in tasks:
        arrival = 0
        while arrival + task.due <= ticks:
            total += task.most
            arrival += task.gap
    return total


def plain_demand_paper(tasks, limit):
    """What is told of the demand, gone up one by one; None where it isn't found up to a limit."""
    if not tasks:
        return ("kept", 0)
    for ticks in range(1, limit):
        if plain_demand(tasks, ticks) > ticks:
            return ("late", ticks)
        if sum(task.most * -(-ticks // task.gap) for task in tasks) == ticks:
            return ("kept", ticks)
    return None


class PlainServed:
    """A run in which a task serves requests, all those ever told, up to an hour."""

    def __init__(self, tasks, name, requests, wishes, hour):
        task = [each for each in tasks if each.name == name][0]
        had = 0
        mine = []
        owners = []
        latest = max([hour] + [wished for wished, ticks in requests]) + task.gap * (1 + sum(row[1] for row in requests))
        for at in range(0, latest, task.gap):
            asked = sum(ticks for wished, ticks in requests if wished <= at)
            if asked > had:
                work = min(task.most, asked - had)
                mine.append((at, name, work))
                owners += [at] * work
                had += work
        self.run = PlainRun(tasks, mine + wishes, hour)
        ends = [tick + 1 for tick, job in enumerate(self.run.ticks) if job is not None and job[0] == name]
        self.requests = []
        total = 0
        for wished, ticks in requests:
            total += ticks
            promised = owners[total - 1] + plain_bound(tasks, task)
            self.requests.append((wished, ticks, promised, ends[total - 1] if total <= len(ends) else None))


class PlainWorths:
    """A run of tasks some of which are worth much, up to an hour."""

    def __init__(self, tasks, fars, wishes, hour):
        self.hour = hour
        self.fars = fars
        self.all = plain_jobs(tasks, wishes, True)
        self.dropped = []
        self.alarms = []
        self.ticks = []
        for tick in range(hour):
            self.alarm(tick)
            if self.alarms and self.alarms[-1][1] is None:
                for job in self.all:
                    if job.task.name not in fars and job.release <= tick and job.end is None:
                        job.end = tick
                        self.dropped.append(job)
            ready = [job for job in self.all if job.release <= tick and job.end is None]
            job = min(ready, key=lambda job: (job.task.rank, job.number), default=None)
            self.ticks.append(job)
            if job is not None:
                job.done += 1
                if job.done in (job.work, fars.get(job.task.name, job.task.most)):
                    job.end = tick + 1
        self.known = [job for job in self.all if job.hour < hour]

    def alarm(self, hour):
        worthy = [job for job in self.all if job.task.name in self.fars and job.end is None]
        if self.alarms and self.alarms[-1][1] is None:
            if hour > self.alarms[-1][0] and not any(job.release < hour for job in worthy):
                self.alarms[-1] = (self.alarms[-1][0], hour)
        elif any(job.task.most == job.done < self.fars[job.task.name] for job in worthy):
            self.alarms.append((hour, None))

    def told(self):
        rows = [(job.task.name, job.number, job.arrival, job.release, job.work, job.done, job.end) for job in self.known]
        dropped = [job.told() for job in self.known if job in self.dropped]
        struck = [job.told() for job in self.known
                  if job.end is not None and job.done < job.work and job not in self.dropped]
        trace = []
        for tick, job in enumerate(self.ticks):
            if job is not None and trace and trace[-1][1:] == (tick,) + job.told():
                trace[-1] = (trace[-1][0], tick + 1) + job.told()
            elif job is not None:
                trace.append((tick, tick + 1) + job.told())
        return (self.hour, rows, dropped, struck, self.alarms, trace)


def plain_far_bound(tasks, fars, task):
    """The far bound of a task of much worth, by going up one by one."""
    usual = plain_bound(tasks, task)
    if usual is None:
        return None
    ahead = [other for other in tasks if other.rank < task.rank]
    for ticks in range(task.due - task.wait + 1):
        total = fars[task.name]
        for other in ahead:
            if other.name in fars:
                total += fars[other.name] * -(-(ticks + other.wait) // other.gap)
            else:
                total += other.most * -(-(usual - task.wait + other.wait) // other.gap)
        if total == ticks:
            return task.wait + ticks
    return None


def plain_plan(chance, waits=(0,), **named):
    """A small plan by chance of tasks without sections."""
    plan = random_plan(chance, waits=waits, **named)
    return Plan([Task(task.name, rank=task.rank, gap=task.gap, most=task.most, due=task.due, wait=task.wait)
                 for task in plan.tasks()])
