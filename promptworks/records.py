"""Records: a whole run as one text, written, read and replayed."""

from promptworks.errors import Unread
from promptworks.rows import number_of, trace_row, wish_of, wish_row
from promptworks.texts import plan_of, rows_of, show_plan, stretches_of, wishes_of
from promptworks.traces import first_wrong, trace_of

WISHES = "wishes"
RUN = "run"
SHUT = "shut"
OPEN = "open"


def show_record(plan, wishes, hour, *, gate=True, guard=True):
    """The text of the run of the wishes up to the hour: plan, wishes for hours below it, gate and guard, trace."""
    trace = trace_of(plan, wishes, hour, gate, guard)
    rows = rows_of(show_plan(plan)) + [WISHES]
    rows.extend([wish_row(wish) for wish in sorted(wishes) if wish[0] < hour])
    rows.append(f"{RUN} {hour} {SHUT if gate else OPEN} {SHUT if guard else OPEN}")
    rows.extend([trace_row(row) for row in trace])
    return "\n".join(rows)


def read_record(text):
    """What a record writes: (plan, wishes, hour, gate, guard, rows)."""
    ahead, wished, ran, behind = parts_of(rows_of(text))
    plan = plan_of(ahead)
    if wished is None:
        raise Unread(WISHES)
    wishes = wishes_of_plan(plan, wished)
    if ran is None:
        raise Unread(RUN)
    hour, gate, guard = doors_of(ran)
    return (plan, wishes, hour, gate, guard, stretches_of(behind))


def replay(text):
    """The place of the first row of a record's trace that isn't the run's, None where all are."""
    plan, wishes, hour, gate, guard, rows = read_record(text)
    return first_wrong(plan, wishes, hour, rows, gate=gate, guard=guard)


def parts_of(rows):
    """The rows of the plan, of the wishes, the row of the run and those of the trace; None for what lacks."""
    if WISHES not in rows:
        return (rows, None, None, [])
    place = rows.index(WISHES)
    behind = rows[place + 1:]
    runs = [at for at, row in enumerate(behind) if row.split(" ")[0] == RUN]
    if not runs:
        return (rows[:place], behind, None, [])
    return (rows[:place], behind[:runs[0]], behind[runs[0]], behind[runs[0] + 1:])


def wishes_of_plan(plan, rows):
    """The wishes of rows, which are of the plan's tasks."""
    names = {task.name: True for task in plan.tasks()}
    for row in rows:
        wish = wish_of(row)
        if wish is None or wish[1] not in names:
            raise Unread(row)
    return wishes_of(rows)


def doors_of(row):
    """The hour, the gate and the guard that the row of a run writes, True where shut."""
    words = row.split(" ")
    if len(words) != 4 or number_of(words[1]) is None:
        raise Unread(row)
    for word in words[2:]:
        if word not in (SHUT, OPEN):
            raise Unread(row)
    return (number_of(words[1]), words[2] == SHUT, words[3] == SHUT)
