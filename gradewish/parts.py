"""Parts: which tasks are left out, and the share of the others with the extras."""

from itertools import combinations

from gradewish.shares import less, plus, share, weighted
from gradewish.tasks import mark


def left_out(part):
    """The rising numbers of the tasks left out, so that the mean of the others is greatest."""
    marked = _marked(part)
    if not marked:
        return ()
    # However many the worst are, one task is kept at least.
    return _best_way(part, marked, min(part[1], len(marked) - 1))


def mean(part, numbers):
    """The mean of the tasks with these numbers, at least one, none of them open."""
    tasks = [part[3][number] for number in numbers]
    return weighted([(task[0], share(mark(task), task[1])) for task in tasks])


def part_share(part):
    """The mean of the tasks kept with the extras, at most 1; None where no task has a mark."""
    marked = _marked(part)
    if not marked:
        return None
    top, extras = part[2], part[4]
    kept = mean(part, _without(marked, left_out(part)))
    whole = plus(kept, share(min(sum(extras), top), 1000))
    return (1, 1) if less((1, 1), whole) else whole


def _marked(part):
    return [number for number, task in enumerate(part[3]) if mark(task) is not None]


def _without(numbers, left):
    return [number for number in numbers if number not in left]


def _best_way(part, marked, many):
    best = None
    way = ()
    # The ways come in the order that the document tells, so only a greater mean supersedes an earlier way.
    for left in combinations(marked, many):
        found = mean(part, _without(marked, left))
        if best is None or less(best, found):
            best = found
            way = left
    return way
