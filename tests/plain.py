"""Plain machines that go tick by tick, plain sums, and plans by chance, to hold the program against."""

from promptworks.plans import Plan
from promptworks.tasks import Task


class PlainJob:
    def __init__(self, task, number, hour, arrival, release, work):
        self.task = task
        self.number = number
        self.hour = hour
        self.arrival = arrival
        self.release = release
        self.work = work
        self.done = 0
        self.end = None

    def told(self):
        return (self.task.name, self.number)


def plain_jobs(tasks, wishes, gate):
    jobs = []
    for task in sorted(tasks, key=lambda task: task.rank):
        last = None
        own = sorted((hour, work) for hour, name, work in wishes if name == task.name)
        for number, (hour, work) in enumerate(own):
            arrival = hour - task.wait
            if last is not None and last + task.gap > arrival:
                arrival = last + task.gap
            release = hour
            if gate and hour < arrival:
                release = arrival
            last = arrival
            jobs.append(PlainJob(task, number, hour, arrival, release, work))
    return jobs


def plain_ceiling(tasks, lock):
    return min(task.rank for task in tasks if any(section[2] == lock for section in task.sections))


def had(job):
    """The sections that a job has."""
    if job.end is not None:
        return []
    return [section for section in job.task.sections if section[0] < job.done < section[0] + section[1]]


class PlainRun:
    """The run of the wishes up to an hour, done tick by tick."""

    def __init__(self, tasks, wishes, hour, gate=True, guard=True):
        self.tasks = list(tasks)
        self.hour = hour
        self.all = plain_jobs(tasks, wishes, gate)
        self.ticks = []
        for tick in range(hour):
            ready = [job for job in self.all if job.release <= tick and job.end is None]
            if not ready:
                self.ticks.append(None)
                continue
            job = min(ready, key=self.place)
            job.done += 1
            if job.done == job.work or (guard and job.done == job.task.most):
                job.end = tick + 1
            self.ticks.append(job.told())
        self.known = [job for job in self.all if job.hour < hour]

    def place(self, job):
        sections = had(job)
        rank = min([job.task.rank] + [plain_ceiling(self.tasks, section[2]) for section in sections])
        return (rank, not sections, job.number)

    def jobs(self):
        return [(job.task.name, job.number, job.arrival, job.release, job.work, job.done, job.end)
                for job in self.known]

    def struck(self):
        return [job.told() for job in self.known if job.end is not None and job.done < job.work]

    def late(self):
        rows = []
        for job in self.known:
            due = job.arrival + job.task.due
            if self.hour >= due and (job.end is None or job.end > due):
                rows.append(job.told())
        return rows

    def holder(self, lock):
        rows = [job.told() for job in self.all if any(section[2] == lock for section in had(job))]
        assert len(rows) < 2
        return rows[0] if rows else None

    def trace(self):
        rows = []
        for tick, job in enumerate(self.ticks):
            if job is None:
                continue
            if rows and rows[-1][1] == tick and rows[-1][2:] == job:
                rows[-1] = (rows[-1][0], tick + 1) + job
            else:
                rows.append((tick, tick + 1) + job)
        return rows


def plain_until(run, job):
    return run.hour if job.end is None else job.end


def plain_parts(run, task, number):
    """Of a plain run: a job's time, tick by tick, among those who had it."""
    job = [each for each in run.known if each.told() == (task, number)][0]
    ranks = {each.name: each.rank for each in run.tasks}
    told = {}
    for tick in range(min(job.arrival, job.release), plain_until(run, job)):
        if tick < job.release:
            key = "held"
        else:
            key = run.ticks[tick]
            assert key is not None
            if key == (task, number):
                key = "own"
            elif key[0] == task:
                assert key[1] < number
                key = "elder"
            else:
                assert ranks[key[0]] != job.task.rank
        told[key] = told.get(key, 0) + 1
    return told


def plain_stretch_begin(run, job):
    """The hour back from the job's release at which its stretch begins, hour by hour."""
    others = [each for each in run.known if each.task.rank <= job.task.rank]
    hour = job.release
    while any(each.release < hour and (each.end is None or each.end > hour) for each in others):
        hour -= 1
    return hour


def plain_blamed(run, gate, guard, task, number):
    """Of a plain run: who is blamed for a job's stretch."""
    job = [each for each in run.known if each.told() == (task, number)][0]
    told = []
    if job.release >= run.hour:
        return told
    begin = plain_stretch_begin(run, job)
    for each in run.known:
        if not begin <= each.release < plain_until(run, job):
            continue
        if each.task.rank > job.task.rank or (each.task.name == task and each.number > number):
            continue
        if not gate and each.hour < each.arrival:
            told.append(each.told() + ("early",))
        if not guard and each.work > each.task.most and each.done >= each.task.most:
            told.append(each.told() + ("long",))
    return told


def plain_held_back(tasks, task):
    best = 0
    for other in tasks:
        for start, length, lock in other.sections:
            if other.rank > task.rank and plain_ceiling(tasks, lock) <= task.rank:
                best = max(best, length - 1)
    return best


def plain_right_side(tasks, task, ticks):
    total = plain_held_back(tasks, task) + task.most
    for other in tasks:
        if other.rank < task.rank:
            many = 0
            while many * other.gap < ticks + other.wait:
                many += 1
            total += many * other.most
    return total


def plain_bound(tasks, task):
    for ticks in range(task.due + 1):
        if task.wait + ticks <= task.due and plain_right_side(tasks, task, ticks) == ticks:
            return task.wait + ticks
    return None


def random_sections(chance, most, locks):
    """Up to four sections that a task of this most may have."""
    rows = []
    for _ in range(chance.choice([0, 1, 2, 4])):
        start = chance.randrange(most)
        length = chance.randint(1, most)
        rows.append((start, length, chance.choice(locks)))
        try:
            Task("probe", rank=1, gap=1, most=most, sections=rows)
        except ValueError:
            rows.pop()
    return rows


def random_plan(chance, many=4, gaps=(4, 24), most=6, waits=(0, 0, 3, 9), locks=("x", "y", "z")):
    """A plan of up to so many small tasks, half of the chances with sections and waits."""
    tasks = []
    ranks = chance.sample(range(1, 20), many)
    for place in range(chance.randint(1, many)):
        gap = chance.randint(*gaps)
        ticks = chance.randint(1, most)
        tasks.append(Task("abcdefgh"[place], rank=ranks[place], gap=gap, most=ticks,
                          due=chance.choice([None, chance.randint(1, gap)]), wait=chance.choice(waits),
                          sections=random_sections(chance, ticks, locks)))
    return Plan(tasks)


def random_wishes(chance, plan, many=12, hours=40):
    """Wishes of the plan, some early, some alike, some of more work than the most."""
    tasks = plan.tasks()
    rows = []
    for _ in range(chance.randint(0, many)):
        task = chance.choice(tasks)
        rows.append((chance.randrange(hours), task.name, chance.randint(1, task.most + 2)))
    return rows


def odd_things():
    """Things that are neither names nor numbers nor rows, but for the whole number 0."""

    class Loud:
        def __eq__(self, other):
            raise RuntimeError("asked")

        def __hash__(self):
            return 1

        def __len__(self):
            raise RuntimeError("asked")

        def __bool__(self):
            raise RuntimeError("asked")

        def __iter__(self):
            raise RuntimeError("asked")

        def __lt__(self, other):
            raise RuntimeError("asked")

    return [True, False, 0, -1, 1.0, 0.5, float("nan"), float("inf"), 1j, "", "A", "a b", "abcdefghijklm", "1",
            "a\n", "\u00e9", b"a", None, [], (), {}, set(), [None], (1,), {"a": 1}, {1}, [[]], object(), Loud(),
            int, len, range(3), iter([]), ValueError("a"), ...]
