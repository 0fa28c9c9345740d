"""Jobs: how far one has come, which sections it has and how urgent they make it."""


class Job:
    """A job of a task, or of a message, from when it is let in."""

    def __init__(self, owner, number, arrival, release, work):
        self.owner = owner
        self.number = number
        self.arrival = arrival
        self.release = release
        self.work = work
        self.done = 0
        self.end = None


def row_of(job):
    """The job as it is told: (name, number, arrival, release, work, done, end)."""
    return (job.owner.name, job.number, job.arrival, job.release, job.work, job.done, job.end)


def locks_of(job):
    """The locks of the sections that the job has: each is taken with a tick, not ahead of it."""
    return [lock for start, length, lock in job.owner.sections if start < job.done < start + length]


def urgency(job, ceilings):
    """A tuple that is least for the job that works: its rank, whether it has no section, its number."""
    held = locks_of(job)
    rank = min([job.owner.rank] + [ceilings[lock] for lock in held])
    return (rank, 0 if held else 1, job.number)


def last_tick(job, guard):
    """How many ticks the job may work in all."""
    if guard:
        return min(job.work, job.owner.most)
    return job.work


def ticks_on(job, guard):
    """How many ticks the job may work on until it leaves a section or is at its end."""
    # Where it takes a section it only gets more urgent: nobody else comes to work there.
    marks = [start + length for start, length, lock in job.owner.sections] + [last_tick(job, guard)]
    return min([mark for mark in marks if mark > job.done]) - job.done


def is_struck(job):
    """Whether the job's end came ahead of all its work."""
    return job.end is not None and job.done < job.work


def is_late(job, now):
    """Whether the job wasn't at its end when it was due, asked now."""
    due = job.arrival + job.owner.due
    return due <= now and (job.end is None or job.end > due)
