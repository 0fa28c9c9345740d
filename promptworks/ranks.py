"""Ranks: rows of unlike names and ranks, in the order of how urgent they are."""

from promptworks.errors import Shared, Twice


def by_rank(rows):
    """The rows, tasks or messages, the most urgent first; refused where a name or a rank repeats."""
    names = {}
    ranks = {}
    for row in rows:
        if row.name in names:
            raise Twice(row.name)
        if row.rank in ranks:
            raise Shared(row.rank)
        names[row.name] = True
        ranks[row.rank] = row
    return [ranks[rank] for rank in sorted(list(ranks))]


def more_urgent(rows, row):
    """Those of the rows that are more urgent than this one."""
    return [other for other in rows if other.rank < row.rank]
