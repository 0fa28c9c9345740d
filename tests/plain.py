"""Plain machines that go tick by tick, plain sums, and plans by chance, to hold the program against."""

from promptworks.buses import Bus, Message
from promptworks.plans import Plan
from promptworks.tasks import Task


class PlainJob:
    def __init__(self, task, number, hour, arrival, release, work):
        self.task = task
        self.number = number
        self.hour = hour
        self.arrival = arrival
        self.release = release
        self.work = work
        self.done = 0
        self.end = None

    def told(self):
        return (self.task.name, self.number)


def plain_jobs(tasks, wishes, gate):
    jobs = []
    for task in sorted(tasks, key=lambda task: task.rank):
        last = None
        own = sorted((hour, work) for hour, name, work in wishes if name == task.name)
        for number, (hour, work) in enumerate(own):
            arrival = hour - task.wait
            if last is not None and last + task.gap > arrival:
                arrival = last + task.gap
            release = hour
            if gate and hour < arrival:
                release = arrival
            last = arrival
            jobs.append(PlainJob(task, number, hour, arrival, release, work))
    return jobs


def plain_ceiling(tasks, lock):
    return min(task.rank for task in tasks if any(section[2] == lock for section in task.sections))


def had(job):
    """The sections that a job has."""
    if job.end is not None:
        return []
    return [section for section in job.task.sections if section[0] < job.done < section[0] + section[1]]


class PlainRun:
    """The run of the wishes up to an hour, done tick by tick."""

    def __init__(self, tasks, wishes, hour, gate=True, guard=True):
        self.tasks = list(tasks)
        self.hour = hour
        self.all = plain_jobs(tasks, wishes, gate)
        self.ticks = []
        for tick in range(hour):
            ready = [job for job in self.all if job.release <= tick and job.end is None]
            if not ready:
                self.ticks.append(None)
                continue
            job = min(ready, key=self.place)
            job.done += 1
            if job.done == job.work or (guard and job.done == job.task.most):
                job.end = tick + 1
            self.ticks.append(job.told())
        self.known = [job for job in self.all if job.hour < hour]

    def place(self, job):
        sections = had(job)
        rank = min([job.task.rank] + [plain_ceiling(self.tasks, section[2]) for section in sections])
        return (rank, not sections, job.number)

    def jobs(self):
        return [(job.task.name, job.number, job.arrival, job.release, job.work, job.done, job.end)
                for job in self.known]

    def struck(self):
        return [job.told() for job in self.known if job.end is not None and job.done < job.work]

    def late(self):
        rows = []
        for job in self.known:
            due = job.arrival + job.task.due
            if self.hour >= due and (job.end is None or job.end > due):
                rows.append(job.told())
        return rows

    def holder(self, lock):
        rows = [job.told() for job in self.all if any(section[2] == lock for section in had(job))]
        assert len(rows) < 2
        return rows[0] if rows else None

    def trace(self):
        rows = []
        for tick, job in enumerate(self.ticks):
            if job is None:
                continue
            if rows and rows[-1][1] == tick and rows[-1][2:] == job:
                rows[-1] = (rows[-1][0], tick + 1) + job
            else:
                rows.append((tick, tick + 1) + job)
        return rows


def plain_until(run, job):
    return run.hour if job.end is None else job.end


def plain_parts(run, task, number):
    """Of a plain run: a job's time, tick by tick, among those who had it."""
    job = [each for each in run.known if each.told() == (task, number)][0]
    ranks = {each.name: each.rank for each in run.tasks}
    told = {}
    for tick in range(min(job.arrival, job.release), plain_until(run, job)):
        if tick < job.release:
            key = "held"
        else:
            key = run.ticks[tick]
            assert key is not None
            if key == (task, number):
                key = "own"
            elif key[0] == task:
                assert key[1] < number
                key = "elder"
            else:
                assert ranks[key[0]] != job.task.rank
        told[key] = told.get(key, 0) + 1
    return told


def plain_stretch_begin(run, job):
    """The hour back from the job's release at which its stretch begins, hour by hour."""
    others = [each for each in run.known if each.task.rank <= job.task.rank]
    hour = job.release
    while any(each.release < hour and (each.end is None or each.end > hour) for each in others):
        hour -= 1
    return hour


def plain_blamed(run, gate, guard, task, number):
    """Of a plain run: who is blamed for a job's stretch."""
    job = [each for each in run.known if each.told() == (task, number)][0]
    told = []
    if job.release >= run.hour:
        return told
    begin = plain_stretch_begin(run, job)
    for each in run.known:
        if not begin <= each.release < plain_until(run, job):
            continue
        if each.task.rank > job.task.rank or (each.task.name == task and each.number > number):
            continue
        if not gate and each.hour < each.arrival:
            told.append(each.told() + ("early",))
        if not guard and each.work > each.task.most and each.done >= each.task.most:
            told.append(each.told() + ("long",))
    return told


def plain_held_back(tasks, task):
    best = 0
    for other in tasks:
        for start, length, lock in other.sections:
            if other.rank > task.rank and plain_ceiling(tasks, lock) <= task.rank:
                best = max(best, length - 1)
    return best


def plain_right_side(tasks, task, ticks):
    total = plain_held_back(tasks, task) + task.most
    for other in tasks:
        if other.rank < task.rank:
            many = 0
            while many * other.gap < ticks + other.wait:
                many += 1
            total += many * other.most
    return total


def plain_bound(tasks, task):
    for ticks in range(task.due + 1):
        if task.wait + ticks <= task.due and plain_right_side(tasks, task, ticks) == ticks:
            return task.wait + ticks
    return None


class PlainLine:
    """The sendings of a bus up to an hour, done tick by tick."""

    def __init__(self, messages, wishes, spoils, hour, gate=True):
        mosts = {message.name: message.most for message in messages}
        self.jobs = plain_jobs(messages, [(wished, name, mosts[name]) for wished, name in wishes], gate)
        self.hour = hour
        self.rows = []
        going = None
        begin = None
        for tick in range(hour):
            ready = [job for job in self.jobs if job.release <= tick and job.end is None]
            if going is None and ready:
                going = min(ready, key=lambda job: (job.task.rank, job.number))
                begin = tick
            if going is not None and tick in spoils:
                self.rows.append((begin, tick + 1) + going.told() + ("spoiled",))
                going = None
            elif going is not None and tick + 1 - begin == going.task.most:
                self.rows.append((begin, tick + 1) + going.told() + ("sent",))
                going.done = going.task.most
                going.end = tick + 1
                going = None
        if going is not None:
            self.rows.append((begin, hour) + going.told() + ("going",))

    def told(self):
        return [(job.task.name, job.number, job.arrival, job.release, job.work, job.done, job.end)
                for job in self.jobs if job.hour < self.hour]


def plain_stretch(messages, message, apart):
    held = max([0] + [other.most - 1 for other in messages if other.rank > message.rank])
    urgent = [other for other in messages if other.rank <= message.rank]
    cost = max(other.most for other in urgent)
    for ticks in range(1, 100 * max(other.gap for other in messages) + 1):
        total = held + sum(other.most * -(-(ticks + other.wait) // other.gap) for other in urgent)
        if apart is not None:
            total += cost * -(-ticks // apart)
        if total == ticks:
            return ticks
    return None


def plain_begin(messages, message, apart, place):
    held = max([0] + [other.most - 1 for other in messages if other.rank > message.rank])
    ahead = [other for other in messages if other.rank < message.rank]
    cost = max([message.most] + [other.most for other in ahead])
    begin = 0
    while True:
        total = held + place * message.most + sum(other.most * ((begin + other.wait) // other.gap + 1) for other in ahead)
        if apart is not None:
            total += cost * -(-(begin + message.most) // apart)
        if total == begin:
            return begin
        begin += 1


def plain_bus_bound(messages, message, apart):
    stretch = plain_stretch(messages, message, apart)
    if stretch is None:
        return None
    told = []
    for place in range(-(-(stretch + message.wait) // message.gap)):
        begin = plain_begin(messages, message, apart, place)
        told.append(message.wait + begin - place * message.gap + message.most)
    return max(told) if max(told) <= message.due else None


def with_wait(row, wait):
    """A task or a message like this one that waits so long."""
    told = {part: thing for part, thing in vars(row).items() if part != "name"}
    return type(row)(row.name, **{**told, "wait": wait})


def plain_net_bounds(nodes, messages, waits, apart):
    told = {}
    for node, tasks in nodes.items():
        rows = [with_wait(task, waits[(node, task.name)]) for task in tasks]
        for task in rows:
            told[(node, task.name)] = plain_bound(rows, task)
    rows = [with_wait(message, waits[(message.name,)]) for message in messages]
    for message in rows:
        told[(message.name,)] = plain_bus_bound(rows, message, apart)
    return told


def plain_net_paper(nodes, messages, chains, apart):
    """("kept", bounds), or ("beyond", links): all that go beyond, those behind one left as they are."""
    parts = {(node, task.name): task for node in nodes for task in nodes[node]}
    waits = {link: 0 for chain in chains for link in chain}
    for chain in chains:
        waits[chain[0]] = parts[chain[0]].wait
    while True:
        told = plain_net_bounds(nodes, messages, waits, apart)
        later = dict(waits)
        for chain in chains:
            for ahead, link in zip(chain, chain[1:]):
                if told[ahead] is None:
                    break
                later[link] = told[ahead]
        if later == waits:
            beyond = [link for link in told if told[link] is None]
            return ("beyond", beyond) if beyond else ("kept", told)
        waits = later


class PlainNet:
    """The run of a net up to an hour, done tick by tick; chains are lists of links, those of one task too."""

    def __init__(self, nodes, messages, chains, wishes, spoils, hour):
        self.nodes = nodes
        self.hour = hour
        self.behind = {chain[place]: chain[place + 1] for chain in chains for place in range(len(chain) - 1)}
        self.parts = {(node, task.name): task for node in nodes for task in nodes[node]}
        self.parts.update({(message.name,): message for message in messages})
        self.queues = {link: [] for link in self.parts}
        for chain in chains:
            node, name = chain[0]
            own = [(wished, name, work) for wished, where, task, work in wishes if (where, task) == chain[0]]
            self.queues[chain[0]] = plain_jobs([self.parts[chain[0]]], own, True)
        going = None
        for tick in range(hour):
            ended = []
            for node in nodes:
                ended.extend(self.work(node, tick))
            going = self.send(going, tick, spoils, ended)
            for link, job in ended:
                job.end = tick + 1
                if job.done == job.work and link in self.behind:
                    behind = self.behind[link]
                    owner = self.parts[behind]
                    self.queues[behind].append(PlainJob(owner, job.number, None, None, tick + 1, owner.most))
        self.lasts = {chain[0]: chain[-1] for chain in chains}

    def work(self, node, tick):
        """Lets the one at its turn on a node work in a tick; tells whoever is at its end behind it."""
        ready = [((node, task.name), job) for task in self.nodes[node] for job in self.queues[(node, task.name)]
                 if job.release <= tick and job.end is None]
        if not ready:
            return []
        link, job = min(ready, key=lambda row: PlainRun.place(self.of(node), row[1]))
        job.done += 1
        return [(link, job)] if job.done in (job.work, job.task.most) else []

    def of(self, node):
        """What a plain run needs to tell the place of a job of this node."""
        run = PlainRun.__new__(PlainRun)
        run.tasks = self.nodes[node]
        return run

    def send(self, going, tick, spoils, ended):
        """Sends in a tick; tells what is still going behind it."""
        ready = [job for link, row in self.queues.items() if len(link) == 1 for job in row
                 if job.release <= tick and job.end is None]
        if going is None and ready:
            going = (min(ready, key=lambda job: (job.task.rank, job.number)), tick)
        if going is None or tick in spoils:
            return None
        job, begin = going
        if tick + 1 - begin < job.task.most:
            return going
        job.done = job.work
        ended.append(((job.task.name,), job))
        return None

    def ends(self, first):
        ends = {job.number: job.end for job in self.queues[self.lasts[first]]}
        return [(job.number, job.arrival, ends.get(job.number)) for job in self.queues[first] if job.hour < self.hour]


def random_sections(chance, most, locks):
    """Up to four sections that a task of this most may have."""
    rows = []
    for _ in range(chance.choice([0, 1, 2, 4])):
        start = chance.randrange(most)
        length = chance.randint(1, most)
        rows.append((start, length, chance.choice(locks)))
        try:
            Task("probe", rank=1, gap=1, most=most, sections=rows)
        except ValueError:
            rows.pop()
    return rows


def random_plan(chance, many=4, gaps=(4, 24), most=6, waits=(0, 0, 3, 9), locks=("x", "y", "z")):
    """A plan of up to so many small tasks, half of the chances with sections and waits."""
    tasks = []
    ranks = chance.sample(range(1, 20), many)
    for place in range(chance.randint(1, many)):
        gap = chance.randint(*gaps)
        ticks = chance.randint(1, most)
        tasks.append(Task("abcdefgh"[place], rank=ranks[place], gap=gap, most=ticks,
                          due=chance.choice([None, chance.randint(1, gap)]), wait=chance.choice(waits),
                          sections=random_sections(chance, ticks, locks)))
    return Plan(tasks)


def random_bus(chance, many=4, gaps=(4, 24), most=5, waits=(0, 0, 3, 9)):
    """A bus of up to so many small messages."""
    messages = []
    ranks = chance.sample(range(1, 20), many)
    for place in range(chance.randint(1, many)):
        gap = chance.randint(*gaps)
        messages.append(Message("mnopqrst"[place], rank=ranks[place], gap=gap, most=chance.randint(1, most),
                                due=chance.choice([None, None, chance.randint(1, gap)]), wait=chance.choice(waits)))
    return Bus(messages)


def random_spoils(chance, apart, hour):
    """Ticks below the hour that are so far apart at least; none where nothing is told."""
    ticks = []
    if apart is not None:
        tick = chance.randrange(2 * apart)
        while tick < hour:
            ticks.append(tick)
            tick += apart + chance.choice([0, 0, 0, 1, 5])
    return ticks


def random_net(chance, gaps=(20, 30, 40), most=4):
    """Plans by nodes, messages and chains over them, gaps of few kinds; and tasks in no chain."""
    nodes = {node: [] for node in ["left", "right", "far"][:chance.randint(2, 3)]}
    messages = []
    chains = []

    def added(rows, kind, gap, **named):
        names = "abcdefgh" if kind is Task else "mnopqrst"
        ranks = [rank for rank in range(1, 20) if rank not in [row.rank for row in rows]]
        rows.append(kind(names[len(rows)], rank=chance.choice(ranks), gap=gap, most=chance.randint(1, most),
                         wait=chance.choice([0, 0, 3]), **named))
        return rows[-1].name

    def task(node, gap):
        length = chance.randint(1, 3)
        sections = [(0, length, chance.choice("xy"))]
        name = added(nodes[node], Task, gap, due=chance.choice([None, None, gap - 5]))
        row = nodes[node][-1]
        if length < row.most:
            nodes[node][-1] = Task(name, rank=row.rank, gap=gap, most=row.most, due=row.due, wait=row.wait, sections=sections)
        return (node, name)

    for _ in range(chance.randint(1, 3)):
        gap = chance.choice(gaps)
        node = chance.choice(list(nodes))
        chain = [task(node, gap)]
        for _ in range(chance.choice([0, 1, 1, 2])):
            node = chance.choice([each for each in nodes if each != node])
            chain += [added(messages, Message, gap), task(node, gap)]
        if len(chain) > 1 or chance.random() < 0.5:
            chains.append(chain)
    for _ in range(chance.randint(0, 1)):
        task(chance.choice(list(nodes)), chance.choice(gaps))
    return nodes, messages, chains


def chain_links(nodes, chains):
    """The chains as links, those of one task that is in none, too."""
    rows = [[link if type(link) is tuple else (link,) for link in chain] for chain in chains]
    told = [link for chain in rows for link in chain]
    return rows + [[(node, task.name)] for node in nodes for task in nodes[node] if (node, task.name) not in told]


def random_wishes(chance, plan, many=12, hours=40):
    """Wishes of the plan, some early, some alike, some of more work than the most."""
    tasks = plan.tasks()
    rows = []
    for _ in range(chance.randint(0, many)):
        task = chance.choice(tasks)
        rows.append((chance.randrange(hours), task.name, chance.randint(1, task.most + 2)))
    return rows


def odd_things():
    """Things that are neither names nor numbers nor rows, but for the whole number 0."""

    class Loud:
        def __eq__(self, other):
            raise RuntimeError("asked")

        def __hash__(self):
            return 1

        def __len__(self):
            raise RuntimeError("asked")

        def __bool__(self):
            raise RuntimeError("asked")

        def __iter__(self):
            raise RuntimeError("asked")

        def __lt__(self, other):
            raise RuntimeError("asked")

    return [True, False, 0, -1, 1.0, 0.5, float("nan"), float("inf"), 1j, "", "A", "a b", "abcdefghijklm", "1",
            "a\n", "\u00e9", b"a", None, [], (), {}, set(), [None], (1,), {"a": 1}, {1}, [[]], object(), Loud(),
            int, len, range(3), iter([]), ValueError("a"), ...]
