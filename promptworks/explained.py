"""Explained: who had the time of a job, and who is blamed for its stretch."""

from promptworks.errors import NoJob


def job_of(works, task, number):
    """The job as works tell it."""
    # A plan refuses to tell a task that isn't there.
    works.plan().task(task)
    for row in works.jobs():
        if row[:2] == (task, number):
            return row
    raise NoJob(task, number)


def last_hour(works, row):
    """The hour of the job's end, or now."""
    if row[6] is None:
        return works.now()
    return row[6]


def parts(works, task, number):
    """How many ticks of the job's time who had, of those who had some: held, own, elder, (task, number)."""
    row = job_of(works, task, number)
    arrival, release = row[2:4]
    until = last_hour(works, row)
    had = ticks_between(works.trace(), release, until)
    # With the gate open a job may be released ahead of its arrival: its time goes from there.
    told = {"held": min(release, until) - min(arrival, release), "own": had.pop((task, number), 0), "elder": 0}
    for name, place in [other[:2] for other in works.jobs()]:
        ticks = had.get((name, place), 0)
        if name == task:
            told["elder"] += ticks
        else:
            told[(name, place)] = ticks
    return {key: ticks for key, ticks in told.items() if ticks > 0}


def ticks_between(rows, begin, until):
    """How many ticks each job of a trace's rows worked from one hour to another."""
    had = {}
    for start, end, task, number in rows:
        ticks = min(end, until) - max(start, begin)
        if ticks > 0:
            had[(task, number)] = had.get((task, number), 0) + ticks
    return had


def blamed(works, task, number):
    """Who came early or worked too long in the job's stretch: (task, number, word)."""
    job = job_of(works, task, number)
    release = job[3]
    if release >= works.now():
        return []
    owners = {owner.name: owner for owner in works.plan().tasks()}
    rank = owners[task].rank
    rows = [row for row in works.jobs() if owners[row[0]].rank <= rank]
    begin = stretch_begin(rows, release)
    until = last_hour(works, job)
    told = []
    for row in rows:
        is_ahead = row[0] != task or row[1] <= number
        if is_ahead and begin <= row[3] < until:
            told.extend([(row[0], row[1], word) for word in faults(works, owners[row[0]], row)])
    return told


def stretch_begin(rows, release):
    """The last hour up to the release at which none of these jobs, released ahead of it, was short of its end."""
    begin = 0
    reach = 0
    # An end that isn't there yet is behind the release, wherever it will be.
    for start, end in sorted([(row[3], release + 1 if row[6] is None else row[6]) for row in rows]):
        if start >= release:
            break
        if start >= reach:
            begin = start
        reach = max(reach, end)
    if reach > release:
        return begin
    return release


def faults(works, owner, row):
    """For what a job is to blame, of early and long, in this order."""
    arrival, release, work, done = row[2:6]
    words = []
    # The shut gate releases none ahead of its arrival.
    if release < arrival:
        words.append("early")
    if not works.is_guarded() and work > owner.most and done >= owner.most:
        words.append("long")
    return words
