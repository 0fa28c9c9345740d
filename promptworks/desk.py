"""The desk: a plan told, run and asked about by rows of words."""

from promptworks.bounds import bound, first_unbound
from promptworks.errors import NoAsk, NoWorks
from promptworks.explained import blamed, parts
from promptworks.plans import Plan
from promptworks.rows import number_of, task_of, trace_row
from promptworks.works import Works

DONE = "ok"
# Whether gate and guard are shut.
WORKS = {"works": (True, True), "works open": (False, True), "works loose": (True, False)}
# What stands behind the first word of what is asked of works.
FORMS = {"wish": ("number", "word", "number"), "run": ("number",), "now": (), "bound": ("word",), "kept": (),
         "jobs": ("word",), "late": (), "trace": (), "why": ("word", "number"), "blame": ("word", "number"),
         "holder": ("word",)}


def things_of(words):
    """The words and numbers behind a row's first word; None where it isn't what is asked of works."""
    kinds = FORMS.get(words[0])
    if kinds is None or len(kinds) != len(words) - 1:
        return None
    things = []
    for kind, word in zip(kinds, words[1:]):
        thing = number_of(word) if kind == "number" else word
        if thing is None or word == "":
            return None
        things.append(thing)
    return things


def listed(rows):
    """Rows as they are answered."""
    return "; ".join(rows) or "none"


def answer_wish(works, things):
    """Wishes a job."""
    hour, task, work = things
    works.wish(hour, task, work)
    return DONE


def answer_run(works, things):
    """Runs the works on."""
    works.run(things[0])
    return DONE


def answer_now(works, things):
    """How far the works are."""
    return f"{works.now()}"


def answer_bound(works, things):
    """The bound of a task."""
    ticks = bound(works.plan(), things[0])
    return "none" if ticks is None else f"{ticks}"


def answer_kept(works, things):
    """Whether the plan is kept."""
    name = first_unbound(works.plan())
    return "kept" if name is None else f"late {name}"


def answer_jobs(works, things):
    """The jobs of a task."""
    name = works.plan().task(things[0]).name
    rows = [row[1:4] + ("-" if row[6] is None else row[6],) for row in works.jobs() if row[0] == name]
    return listed([f"{number} {arrival} {release} {end}" for number, arrival, release, end in rows])


def answer_late(works, things):
    """The jobs that are late."""
    return listed([f"{name} {number}" for name, number in works.late()])


def answer_trace(works, things):
    """Who worked when."""
    return listed([trace_row(row) for row in works.trace()])


def answer_why(works, things):
    """Who had a job's time."""
    task, number = things
    rows = []
    for key, ticks in parts(works, task, number).items():
        rows.append(f"{key[0]} {key[1]} {ticks}" if type(key) is tuple else f"{key} {ticks}")
    return listed(rows)


def answer_blame(works, things):
    """Who is blamed for a job's stretch."""
    task, number = things
    return listed([f"{name} {place} {word}" for name, place, word in blamed(works, task, number)])


def answer_holder(works, things):
    """Who has a lock."""
    holder = works.holder(things[0])
    return "nobody" if holder is None else f"{holder[0]} {holder[1]}"


ANSWERS = {"wish": answer_wish, "run": answer_run, "now": answer_now, "bound": answer_bound, "kept": answer_kept,
           "jobs": answer_jobs, "late": answer_late, "trace": answer_trace, "why": answer_why, "blame": answer_blame,
           "holder": answer_holder}


class Desk:
    """A desk, told rows and answering with texts: it has works from the first row on that begins some."""

    def __init__(self):
        self._tasks = []
        self._works = None

    def say(self, row):
        """Tells the desk a row, of anything; its answer."""
        if type(row) is not str:
            raise NoAsk(row)
        task = task_of(row)
        if task is not None:
            self._tasks.append(task)
            return DONE
        if row in WORKS:
            self._begin_works(row)
            return DONE
        words = row.split(" ")
        things = things_of(words)
        if things is None:
            raise NoAsk(row)
        if self._works is None:
            raise NoWorks()
        answer = ANSWERS[words[0]]
        return answer(self._works, things)

    def _begin_works(self, row):
        """Begins works of the tasks told, which are gone whether they make a plan or not."""
        tasks = self._tasks
        self._tasks = []
        gate, guard = WORKS[row]
        self._works = Works(Plan(tasks), gate=gate, guard=guard)
